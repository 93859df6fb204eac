/- DERIVED. FlLn, FlNz, FlCa, PaRd. By an AI agent. -/
import Derived.Test.YtcgibpdjfgjldaaGreatDoorT27
set_option maxRecDepth 100000
set_option maxHeartbeats 8000000
set_option linter.unusedVariables false
set_option linter.unusedSimpArgs false
namespace Go.Proofs.YtcgibpdjfgjldaaGreatDoor
namespace Fl
open Go Go.ChangeShapes Go.WideShapes Go.ChangeAt Go.RowKit Lx Args Pa Sh Go.Proofs.YtcgibpdjfgjldaaGreatDoor.Nm
def LnP(w0 w:World)(fb m:Nat)(fu:Fu)(e:Ending)(w':World):Prop:=e = .returned (.tuple #[])/\FuM w0 w' fb m fu/\Upd (fun b=>b=fb) w w'
def LnAt(w0:World)(l:List Tz):Prop:=
 ∀ (w:World) (g fb m:Nat) (fu:Fu) (A:Option Addr) (cA:Nat) (bx:Array Value),Below w0.heap.size w0 w->w0.heap.size<=fb->fb≠g->FuM w0 w fb m fu->m+nbzs l<=134217728->Blk w g 118 bx->bx[1]?=some (.map (some fb))->Pts w0 A cA l ->
  Calls Tryz.prog 61 #[.pointer (some ⟨g,0,none⟩),.slice A l.length cA] w (LnP w0 w fb (m+nbzs l) (lnTs 0 l fu))
theorem q6E(x:Tz)(l:List Tz)(fu:Fu):lnTs 0 (x :: l) fu=lnTs 0 l (lnT x fu):=by conv=>lhs;unfold lnTs
theorem q3u(i:Nat)(fu:Fu):lnTs i [] fu=fu:=by cases i <;> (unfold lnTs;rfl)
theorem q4a:∀ (i:Nat) (l:List Tz) (fu:Fu),lnTs i l fu=lnTs 0 (l.drop i) fu
 | 0,l,fu=>rfl
 | i+1,[],fu=>by rw [q3u];simp [q3u]
 | i+1,x :: l,fu=>by
  rw [List.drop_succ_cons,<-q4a i l fu]
  conv=>lhs;unfold lnTs
theorem lnT_mk(k a:Int)(s:Bs)(n:Nat)(ps:List Bs)(l:List Tz)(fu:Fu):lnT (.mk k a s n ps l) fu=if k = 12 then (fun t=>if t=s then some (ps,l) else fu t) else if k = 11 then lnTs 2 l fu else fu:=by conv=>lhs;unfold lnT
theorem nbzs_le_drop':∀ (i:Nat) (l:List Tz),nbzs (l.drop i)<=nbzs l
 | 0,l=>Nat.le_refl _
 | i+1,[]=>V3
 | i+1,x :: l=>by
  rw [List.drop_succ_cons];have:=nbzs_le_drop' i l;exact V1V
theorem learn_{w0:World}(l:List Tz)(H:∀ y∈l,LnAt w0 ((lz y).drop 2)):LnAt w0 l:=by
 intro w g fb m fu A cA bx hb0 hfb hne hF hm hB hbx hP;have hlm:l.length<=9223372036854775807:=Nat.le_trans hP.le hP.cap;have HH:=Hi H;have HP:=Hi hP;have HF:=Hi hF;have HB:=Hi hB;have HB0:=Hi hb0;have HM:=Hi hm;have HFB:=Hi hfb;have HNE:=Hi hne;have HBX:=Hi hbx;obtain ⟨res,hres⟩:∃ res,lnTs 0 l fu=res:=⟨_,rfl⟩;rw [hres];have HRES:=Hi hres;clear H hP hF hB hb0 hm hres hfb hne hbx;go_enter Tryz.func61,Tryz.ntmps61;go_wp2_with fail
 go_loopw [10] (fun vi wr=>∃ (i:Nat) (fi:Fu) (mi:Nat),i<=l.length/\vi = .int .i64 (i:Int)/\Hid (FuM w0 wr fb mi fi)/\Hid (Upd (fun b=>b=fb) w wr)/\Hid (mi+nbzs (l.drop i)<=m+nbzs l)/\Hid (lnTs 0 (l.drop i) fi=res)) (fun vi _=>l.length - (intOf vi).toNat)
 case atStart=>exact ⟨0,fu,m,V0,rfl,HF,Hi (Upd.refl _ _),Hi (Nat.le_refl _),HRES⟩
 case round=>
  obtain ⟨i,fi,mi,hi,rfl,HFi,HU,HMI,HQ⟩:=hrel;have HBr:=Hi (HB.out.upd HU.out (fun h=>HNE.out h.symm));have HB0r:=Hi (HB0.out.trans (HU.out.below (B:=w0.heap.size) HB0.out.size fun b hb=>hb ▸ HFB.out));by_cases hlt:i < l.length
  ·have hil:(i:Int) < (l.length:Int):=by omega
   obtain ⟨y,hy⟩:∃ y,l[i]?=some y:=⟨_,List.getElem?_eq_getElem hlt⟩;obtain ⟨bb,o,k',a',s',n',A',la',cA',B',lb',cB',hA,hTy,hbl,g0',g1,g2,g3,g4,g5⟩:=HP.out.at_ HB0r.out hy;subst hA;obtain ⟨wb,hwb,hbb,hXb,hsb⟩:=q05 wr (nB k' a' s' n' A' la' cA' B' lb' cB');have hnb:=nbzs_drop hy;have hq:=HQ.out;rw [drop_at hy,q6E] at hq;have hyl:=List.mem_of_getElem? hy;obtain ⟨ky,ay,sy,ny,py,ly⟩:=y;have hT0:=hTy;obtain ⟨rfl,rfl,rfl,rfl,rfl,rfl,hPy,hsy,-,-,hpy,-,-⟩:=hTy.parts;rw [lnT_mk] at hq;have hnz:nbz (.mk k' a' s' n' py ly)=py.length+1+nbzs ly:=rfl;have hb1:=HMI.out;have hmm:=HM.out;have hmi:mi+nbz (.mk k' a' s' n' py ly)+nbzs (l.drop (i+1))<=m+nbzs l:=V0;have HMI2:=Hi hmi;have HNZ:=Hi hnz;obtain ⟨⟨e0,e1,e2,e3,e4,e5⟩,z0,z1,z2,z3,z4,z5⟩:=Blk.c6 hXb;have hgx:=hXb.lt;have HWB:=Hi hwb;have HQ2:=Hi hq;have HUB:=Hi (HU.out.trans (Upd.of_below hbb _));have HBB:=Hi hbb;have HXB:=Hi hXb;have hbl2:bb < wr.heap.size:=Nat.lt_of_lt_of_le hbl HB0r.out.size;have HT0:=Hi hT0;have HPY:=Hi hPy;have HSY:=Hi hsy;have HPS:=Hi hpy;have HLY:=Hi (show LnAt w0 (ly.drop 2) from HH.out _ hyl);have HFW:=Hi (HFi.out.upd (Upd.of_below hbb fun _=>False) id);have HNX:=Hi (show ¬ wr.heap.size=fb from by have:=HFi.out.lt;omega);clear hwb hbb hXb hq hTy hT0 hy hsb hnb hnz hb1 hmm hmi hyl hPy hsy hpy;by_cases hk12:k' = 12
   ·subst hk12;have hq3:=HQ2.out;rw [if_pos rfl] at hq3;have HQ3:=Hi hq3;have hdr:Below wb.heap.size wb wb.drew:=Below.drew (Below.refl _ _);obtain ⟨wd,hwd⟩:∃ u,wb.drew=u:=⟨_,rfl⟩;rw [hwd] at hdr;have HXd:=Hi (HXB.out.below hdr HXB.out.lt);have HBd:=Hi (HBr.out.below (HBB.out.trans (hdr.mono HBB.out.size)) HBr.out.lt);have HUd:=Hi (HUB.out.trans (Upd.of_below hdr _));obtain ⟨kd,hkd,hfu⟩:=HFW.out.upd (Upd.of_below hdr fun _=>False) id;obtain ⟨w5,hrun,hM5,ht5⟩:=mpn_put hkd HSY.out (by have:=HMI2.out;have:=HM.out;have:=HNZ.out;unfold maxLen;omega) ⟨12,a',s',n',A',ly.length,cA',B',py.length,cB'⟩;have hz5:Upd (fun b=>b=fb) wd w5:=q07 ht5 rfl;have HF5:=Hi (show FuM w0 w5 fb (mi+1) (fun t=>if t=s' then some (py,ly) else fi t) from ⟨_,hM5,fun t=>by
     by_cases e:t=s'
     ·subst e;rw [if_pos rfl];dsimp only;rw [if_pos rfl];exact ⟨_,rfl,HT0.out.1,HPS.out,HPY.out.len,HPY.out.num⟩
     ·have h:=hfu t;simp only [if_neg e];exact h⟩)
    have hrun':(Instr.mapUpdate 73 (.map (some fb)) (.string ⟨s'.toArray⟩) (.agg #[.int .i64 12,.string ⟨s'.toArray⟩,.int .u32 (n':Int),.int .i64 a',.slice A' ly.length cA',.slice B' py.length cB'])).run Tryz.prog wd = .ok () w5:=hrun;have HWD:=Hi hwd;clear hdr hkd hfu hM5 ht5 hrun hq3;go_upto_region 5 with fail
    rw [HWB.out];clear hwd;have hwd:=HWD.out;clear e0 e1 e2 e3 e4 e5 z0 z1 z2 z3 z4 z5 HWD;have hZ0:Upd (fun b=>b=fb) wd wd:=Upd.refl _ _;refine HT.wp_region (Z:=fun w'=>Upd (fun b=>b=fb) wd w') (S:=fun _=>True) (st:=[]) V1 ?_;rw [hwd];clear hwd;refine HT.m 0 hZ0 ?_;refine HT.m 1 hZ0 ?_;refine HT.m 2 hZ0 ?_;refine HT.k 3 rfl (by intro v hSw;have hA:=HBd.out.upd hSw (fun h=>HNE.out h.symm);have c1:=(hA.cell 1).trans HBX.out;have hga:=hA.lt;clear hSw hA;go_simp;try with_reducible rfl) hZ0 ?_;refine HT.k 4 rfl Vq hZ0 ?_;refine HT.k 5 rfl Vq hZ0 ?_;refine HT.k 6 rfl Vq hZ0 ?_;refine HT.one (i:=7) V1 rfl (fun K hK=>?_);go_simp;(try dsimp only);refine hK.out _ _ hz5 trivial ?_;clear hK K;(try simp only [HT.pS]);refine HT.done V1 ?_;have H2:=Hi (HUd.out.trans hz5);have H3:=Hi (show mi+1+nbzs (l.drop (i+1))<=m+nbzs l from by have:=HMI2.out;have:=HNZ.out;omega);clear hZ0 hz5 hrun';go_wp2_with fail
    go_roundw
    case rel=>exact ⟨i+1,_,mi+1,V0,V7,HF5,H2,H3,HQ3⟩
    case measure=>simp [intOf];omega
   have i12:(k'==12)=false:=by simpa using hk12
   by_cases hk11:k' = 11
   ·subst hk11;have hq3:=HQ2.out;rw [if_neg V2,if_pos rfl,q4a 2] at hq3;have HCU:=Hi (cutL wb 2 HPY.out V2);have HQ3:=Hi hq3;clear hq3;go_wp2_with fail
    rw [HWB.out];refine (show Calls Tryz.prog 94 #[.slice A' ly.length cA',.int .i64 2] wb _ from HCU.out).mono ?_;rintro e w5 ⟨l1,l2,A1,c1,A2,c2,h1,h2,rfl,hP1,hP2,hb5⟩;have hnd:nbzs l2<=nbzs ly:=by rw [h2];exact nbzs_le_drop' 2 ly
    have hl2:=HLY.out;rw [<-h2] at hl2;have HLE:=Hi (hl2 w5 g fb mi fi A2 c2 bx ((HB0r.out.trans (HBB.out.mono HB0r.out.size)).trans (hb5.mono (Nat.le_trans HB0r.out.size HBB.out.size))) HFB.out HNE.out (HFW.out.upd (Upd.of_below hb5 fun _=>False) id) (by have:=HMI2.out;have:=HNZ.out;have:=HM.out;omega) (HBr.out.below (HBB.out.trans (hb5.mono HBB.out.size)) HBr.out.lt) HBX.out hP2);rw [h2,<-h2] at HLE;have HU5:=Hi (HUB.out.trans (Upd.of_below hb5 _));have HND:=Hi hnd;rw [<-h2] at HQ3;clear h1 h2 hP1 hP2 hb5 hnd hl2 e0 e1 e2 e3 e4 e5 z0 z1 z2 z3 z4 z5;go_wp2_with fail
    refine (show Calls Tryz.prog 61 #[.pointer (some ⟨g,0,none⟩),.slice A2 l2.length c2] w5 _ from HLE.out).mono ?_;rintro e w6 ⟨rfl,hF6,hu6⟩;have H1:=Hi hF6;have H2:=Hi (HU5.out.trans hu6);have H3:=Hi (show mi+nbzs l2+nbzs (l.drop (i+1))<=m+nbzs l from by have:=HMI2.out;have:=HNZ.out;have:=HND.out;omega);clear hF6 hu6;go_wp2_with fail
    go_roundw
    case rel=>exact ⟨i+1,_,mi+nbzs l2,V0,V7,H1,H2,H3,HQ3⟩
    case measure=>simp [intOf];omega
   ·have i11:(k'==11)=false:=by simpa using hk11
    have hq3:=HQ2.out;rw [if_neg hk12,if_neg hk11] at hq3;have HQ3:=Hi hq3;have H3:=Hi (show mi+nbzs (l.drop (i+1))<=m+nbzs l from by have:=HMI2.out;omega);clear hq3 hk11 hk12;go_wp2_with fail
    rw [HWB.out]
    go_roundw
    case rel=>exact ⟨i+1,fi,mi,V0,V7,HFW,HUB,H3,HQ3⟩
    case measure=>simp [intOf];omega
  ·obtain rfl:i=l.length:=by omega
   have hq:=HQ.out;rw [List.drop_length,q3u] at hq;have HEND:=Hi (show LnP w0 w fb (m+nbzs l) res (.returned (.tuple #[])) wr from by
    rw [<-hq];exact ⟨rfl,HFi.out.mono (by have:=HMI.out;omega),HU.out⟩)
   clear hq;exact Vc
theorem q4b:∀ (i:Nat) (l:List Tz),SizeOf.sizeOf (l.drop i)<=SizeOf.sizeOf l
 | 0,l=>Nat.le_refl _
 | i+1,[]=>V3
 | i+1,x :: l=>by
  rw [List.drop_succ_cons];have:=q4b i l;simp only [List.cons.sizeOf_spec];omega
theorem q4c{w0:World}:∀ (m:Nat) (l:List Tz),SizeOf.sizeOf l < m->LnAt w0 l
 | 0,l,h=>absurd h (Nat.not_lt_zero _)
 | m+1,l,h=>learn_ l fun y hy=>q4c m _ (by
  have h1:=List.sizeOf_lt_of_mem hy;obtain ⟨k,a,s,n,ps,ly⟩:=y;have h2:=q4b 2 ly;simp only [Tz.mk.sizeOf_spec] at h1;show SizeOf.sizeOf (ly.drop 2) < m;omega)
end Fl
namespace Fl
open Lx Pa Sh Go.Proofs.YtcgibpdjfgjldaaGreatDoor.Nm
def ErR{α:Type}:Rf α->Prop | .ok _=>True | .bad _ e=>e≠0
theorem ErR.bnd{α β:Type}{r:Rf α}{f:α->Rf β}(h:ErR r)(hf:∀ x,ErR (f x)):ErR (bndF r f):=by
 cases r with
 | ok x=>exact hf x
 | bad a e=>exact h
theorem nu_er{num:Num}{kn:Kw}(z:Tz):ErR (nuB num kn z):=by
 unfold nuB;cases strB (looB kn) z with
 | none=>trivial
 | some e=>
  show badB kn e≠0;unfold badB;by_cases h:e.1 = 1/\secB kn e.2.2=true
  ·rw [if_pos h];decide
  ·rw [if_neg h];decide
theorem q6F{f:Tz->Int->Rf (Bool×Int)}(h:∀ z nd,ErR (f z nd)):∀ (l:List Tz) (nd:Int),ErR (seqB f l nd)
 | [],nd=>trivial
 | x :: l,nd=>by
  unfold seqB;exact (h x nd).bnd fun q=>(q6F h l q.2).bnd fun r=>trivial
def ErC(sub:Sub):Prop:=∀ kn z nd,ErR (sub kn z nd)
theorem cal_er{fu:Fu}{sub:Sub}(hc:ErC sub)(s:Bs)(q:List Bool×Int):ErR (calB fu sub s q):=by
 unfold calB;by_cases hs:s=sel
 ·rw [if_pos hs];trivial
 rw [if_neg hs];cases fu s with
 | none=>trivial
 | some f=>exact (q6F (fun z nd=>hc _ z nd) _ _).bnd fun r=>trivial
section
variable {num : Num} {M : Int} {D R : Nat} {fu : Fu}
mutual
theorem q4d{kn:Kw}{deep:Bool}{sub:Sub}(hc:ErC sub):∀ (z:Tz) (nd:Int),ErR (exT num M fu deep sub kn z nd)
 | .mk k a s _ _ l,nd=>by
  unfold exT;by_cases h5:k = 5
  ·rw [if_pos h5];by_cases h1:M < nx nd\/deep=true
   ·rw [if_pos h1];show (150:Nat)≠0;decide
   rw [if_neg h1];exact (q6F (fun z nd=>hc _ z nd) _ _).bnd fun q=>cal_er hc s q
  rw [if_neg h5];by_cases h4:k = 4
  ·rw [if_pos h4];exact exS_er hc l _
  rw [if_neg h4];exact (q6G hc l _).bnd fun q=>trivial
theorem exS_er{kn:Kw}{deep:Bool}{sub:Sub}(hc:ErC sub):∀ (l:List Tz) (nd:Int),ErR (exS num M fu deep sub kn l nd)
 | [],nd=>by unfold exS;trivial
 | [x],nd=>by
  unfold exS;exact ErR.bnd (α:=BitVec 32) (r:=.ok 0) trivial fun _=>q4d hc x nd
 | x :: y :: l,nd=>by
  unfold exS;exact (nu_er y).bnd fun _=>q4d hc x nd
theorem q6G{kn:Kw}{deep:Bool}{sub:Sub}(hc:ErC sub):∀ (l:List Tz) (nd:Int),ErR (exTs num M fu deep sub kn l nd)
 | [],nd=>by unfold exTs;trivial
 | x :: l,nd=>by
  unfold exTs;exact (q4d hc x nd).bnd fun q=>(q6G hc l q.2).bnd fun r=>trivial
end
theorem q6H:∀ (c:Nat),ErC (exC num M fu c)
 | 0=>fun kn z nd=>by unfold exC;exact q4d (sub:=fun _ _ nd=>.ok (false,nd)) (fun _ _ _=>trivial) z nd
 | c+1=>fun kn z nd=>by unfold exC;exact q4d (q6H c) z nd
theorem hd_er{l:List Tz}{nd:Int}{f:Tz->Int->Rf (Bool×Int)}(h:∀ x nd,ErR (f x nd)):ErR (hdB l nd f):=by
 cases l with
 | nil=>trivial
 | cons x l=>exact h x nd
theorem ro_er{a:Int}{s:Bs}{body:Sf->Rf Sf}(hb:∀ c,ErR (body c)):∀ (n:Nat) (i:BitVec 32) (c:Sf),ErR (roB R a s body n i c)
 | 0,i,c=>trivial
 | n+1,i,c=>by
  unfold roB;by_cases hr:R < c.rd+1
  ·rw [if_pos hr];show (150:Nat)≠0;decide
  ·rw [if_neg hr];exact (hb _).bnd fun d=>ro_er hb n (i+1) _
mutual
theorem sfT_er:∀ (z:Tz) (c:Sf),ErR (sfT num M D R fu z c)
 | .mk k a s n ps l,c=>by
  unfold sfT;by_cases h6:k = 6\/k = 7
  ·rw [if_pos h6];trivial
  rw [if_neg h6];by_cases h10:k = 10
  ·rw [if_pos h10];exact (hd_er fun x nd=>q6H D c.kn x nd).bnd fun q=>trivial
  rw [if_neg h10];by_cases h8:k = 8\/k = 9
  ·rw [if_pos h8];refine (hd_er fun x nd=>q6H D c.kn x nd).bnd fun q=>?_
   by_cases h9:q.1=true/\k = 9
   ·rw [if_pos h9];show (130:Nat)≠0;decide
   ·rw [if_neg h9];trivial
  rw [if_neg h8];by_cases h11:k = 11
  ·rw [if_pos h11];have hi:ErR (n0B num c.kn l):=by
    cases l with
    | nil=>trivial
    | cons x l=>exact nu_er x
   have hj:ErR (n1B num c.kn l):=by
    cases l with
    | nil=>trivial
    | cons x l=>
     cases l with
     | nil=>trivial
     | cons y l=>exact nu_er y
   exact hi.bnd fun i=>hj.bnd fun j=>ro_er (fun d=>q3v 2 l d) _ _ c
  ·rw [if_neg h11];trivial
theorem q3v:∀ (i:Nat) (l:List Tz) (c:Sf),ErR (sfTs num M D R fu i l c)
 | _,[],c=>by unfold sfTs;trivial
 | 0,x :: l,c=>by
  unfold sfTs;exact (sfT_er x c).bnd fun d=>q3v 0 l d
 | i+1,x :: l,c=>by
  unfold sfTs;exact q3v i l c
end
end
end Fl
namespace Fl
open Go Go.ChangeShapes Go.WideShapes Go.ChangeAt Go.RowKit Lx Args Pa Sh Go.Proofs.YtcgibpdjfgjldaaGreatDoor.Nm
theorem catch_idle(p q r:Addr)(w:World) :
  CallsD Tryz.prog 60 #[.pointer (some p),.pointer (some q),.pointer (some r)] .returning w fun e u' w'=>e = .returned (.tuple #[])/\u' = .returning/\w'=w:=by
 have hnil:∀ w:World,(binOp BinOp.neq 20 .nilIface .nilIface).run Tryz.prog w = .ok (.bool false) w:=fun _=>V1
 refine callsD_of_wpS Tryz.func60 rfl fun c₀ cs hu=>?_
 apply wpS_seq;apply wpS_region;simp [wpOpsS,go_sem,recoverD,hu,Tryz.ntmps60,Exit.thenS];refine wpS_of_wp ?_;go_wp2_with fail
 cases c₀
 simp_all [bodyPostS,results,Tryz.results60]
def R3(w:World)(g:Nat)(v a e:Value):Prop:=Blk w g 31 #[v]/\Blk w (g+1) 3 #[a]/\Blk w (g+2) 27 #[e]
theorem R3.upd{w w':World}{g:Nat}{v a e:Value}{X:Nat->Prop}(h:R3 w g v a e)(hu:Upd X w w')(hx:¬ X g/\¬ X (g+1)/\¬ X (g+2)):R3 w' g v a e:=⟨h.1.upd hu hx.1,h.2.1.upd hu hx.2.1,h.2.2.upd hu hx.2.2⟩
theorem R3.cells{w:World}{g:Nat}{v a e:Value}(h:R3 w g v a e):w.cell? ⟨g,0,none⟩=some v/\w.cell? ⟨g+1,0,none⟩=some a/\w.cell? ⟨g+2,0,none⟩=some e/\w.frozen? ⟨g,0,none⟩=false/\w.frozen? ⟨g+1,0,none⟩=false/\w.frozen? ⟨g+2,0,none⟩=false/\g+2 < w.heap.size:=
 ⟨h.1.cell 0,h.2.1.cell 0,h.2.2.cell 0,h.1.frozen 0,h.2.1.frozen 0,h.2.2.frozen 0,h.2.2.lt⟩
theorem R3.put{w:World}{g:Nat}{v a e:Value}(h:R3 w g v a e)(v' a' e':Value):R3 (((w.setCell ⟨g,0,none⟩ v').setCell ⟨g+1,0,none⟩ a').setCell ⟨g+2,0,none⟩ e') g v' a' e':=
 ⟨((h.1.set 0 v').far (p:=⟨g+1,0,none⟩) (by show g≠g+1;omega) a').far (p:=⟨g+2,0,none⟩) (by show g≠g+2;omega) e',
  ((h.2.1.far (p:=⟨g,0,none⟩) (by show g+1≠g;omega) v').set 0 a').far (p:=⟨g+2,0,none⟩) (by show g+1≠g+2;omega) e',
  ((h.2.2.far (p:=⟨g,0,none⟩) (by show g+2≠g;omega) v').far (p:=⟨g+1,0,none⟩) (by show g+2≠g+1;omega) a').set 0 e'⟩
theorem R3.put_upd{w0 w:World}{g:Nat}(h:Upd (fun b=>b=g\/b=g+1\/b=g+2) w0 w)(v' a' e':Value):Upd (fun b=>b=g\/b=g+1\/b=g+2) w0 (((w.setCell ⟨g,0,none⟩ v').setCell ⟨g+1,0,none⟩ a').setCell ⟨g+2,0,none⟩ e'):=
 ((h.setCell (p:=⟨g,0,none⟩) (fun _=>.inl rfl) v').setCell (p:=⟨g+1,0,none⟩) (fun _=>.inr (.inl rfl)) a').setCell (p:=⟨g+2,0,none⟩) (fun _=>.inr (.inr rfl)) e'
theorem catch_wrong(g:Nat)(a:Int)(er:Nat)(w:World){v0 a0 q0:Value}(h3:R3 w g v0 a0 q0) :
  CallsD Tryz.prog 60 #[.pointer (some ⟨g,0,none⟩),.pointer (some ⟨g+1,0,none⟩),.pointer (some ⟨g+2,0,none⟩)] (.panicking [{ v:=.iface 113 (.agg #[.int .i64 a,.int .i64 (er:Int)]),recovered:=false }]) w fun e u' w'=>e = .returned (.tuple #[]) /\
   u' = .panicking [{ v:=.iface 113 (.agg #[.int .i64 a,.int .i64 (er:Int)]),recovered:=true }]/\R3 w' g (.slice none 0 0) (.int .i64 a) (.int .i64 (er:Int))/\Upd (fun b=>b=g\/b=g+1\/b=g+2) w w':=by
 have hne:∀ w:World,(binOp BinOp.neq 20 (.iface 113 (.agg #[.int .i64 a,.int .i64 (er:Int)])) .nilIface).run Tryz.prog w = .ok (.bool true) w:=fun _=>V1
 have hta:∀ w:World,(Instr.typeAssert (.iface 113 (.agg #[.int .i64 a,.int .i64 (er:Int)])) 20 113 false).run Tryz.prog w = .ok (.agg #[.int .i64 a,.int .i64 (er:Int)]) w:=fun _=>V1
 refine callsD_of_wpS Tryz.func60 rfl fun c₀ cs hu=>?_
 apply wpS_seq;apply wpS_region;simp [wpOpsS,go_sem,recoverD,hu,Tryz.ntmps60,Exit.thenS];refine wpS_of_wp ?_;simp only [Array.replicate_succ,Array.replicate_zero,List.push_toArray,List.setIfInBounds_toArray,List.set_cons_succ,List.set_cons_zero,List.append_toArray,List.cons_append,List.nil_append];obtain ⟨w1,hw1,hb1,hX1⟩:=alK w #[.int .i64 a,.int .i64 (er:Int)] 113;have hdr:Below w1.heap.size w1 w1.drew:=Below.drew (Below.refl _ _);obtain ⟨wd,hwd⟩:∃ u,w1.drew=u:=⟨_,rfl⟩;rw [hwd] at hdr;have hbd:=hb1.trans (hdr.mono hb1.size);have h3l:=h3.cells.2.2.2.2.2.2;have hR:=h3.upd (Upd.of_below hbd fun _=>False) ⟨id,id,id⟩;have HXd:=Hi (hX1.below hdr hX1.lt);have HRd:=Hi hR;have HW1:=Hi hw1;have HN:=Hi (show ¬ (w.heap.size=g\/w.heap.size=g+1\/w.heap.size=g+2) from V0);have HU:=Hi (show Upd (fun b=>b=g\/b=g+1\/b=g+2) w wd from Upd.of_below hbd _);have HWD:=Hi hwd;clear h3 hw1 hb1 hX1 hdr hbd h3l hR hwd;go_upto_region 3 with fail
 rw [HW1.out];have hwd:=HWD.out;clear HWD;have hZ0:Upd (fun b=>b=g\/b=g+1\/b=g+2) wd wd:=Upd.refl _ _;refine HT.wp_region (Z:=fun w'=>Upd (fun b=>b=g\/b=g+1\/b=g+2) wd w') (S:=fun _=>True) (st:=[]) V1 ?_;rw [hwd];clear hwd;refine HT.k 0 rfl V0N hZ0 ?_;refine HT.k 1 rfl V0N hZ0 ?_;refine HT.k 2 rfl V0N hZ0 ?_;refine HT.k 3 rfl V0N hZ0 ?_;obtain ⟨c1,c2,c3,f1,f2,f3,hgl⟩:=HRd.out.cells;have g01:g≠g+1:=V0;have g02:g≠g+2:=V0;have g12:g+1≠g+2:=V0;have hz1:Upd (fun b=>b=g\/b=g+1\/b=g+2) wd (wd.setCell ⟨g,0,none⟩ (.slice none 0 0)):=hZ0.setCell (p:=⟨g,0,none⟩) (fun _=>.inl rfl) _;have hz2:=hz1.setCell (p:=⟨g+1,0,none⟩) (fun _=>.inr (.inl rfl)) (.int .i64 a);have hz3:=hz2.setCell (p:=⟨g+2,0,none⟩) (fun _=>.inr (.inr rfl)) (.int .i64 (er:Int));refine HT.one (i:=4) V1 rfl (fun K hK=>?_);go_simp;(try dsimp only);refine hK.out _ _ hz1 trivial ?_;clear hK K;(try simp only [HT.pS]);refine HT.one (i:=5) V1 rfl (fun K hK=>?_);go_simp;(try dsimp only);refine hK.out _ _ hz2 trivial ?_;clear hK K;(try simp only [HT.pS]);refine HT.one (i:=6) V1 rfl (fun K hK=>?_);go_simp;(try dsimp only);refine hK.out _ _ hz3 trivial ?_;clear hK K;(try simp only [HT.pS]);refine HT.done V1 ?_;have HE1:=Hi (HRd.out.put (.slice none 0 0) (.int .i64 a) (.int .i64 (er:Int)));have HE2:=Hi (HU.out.trans hz3);clear hZ0 hz1 hz2 hz3 c1 c2 c3 f1 f2 f3 hgl;go_wp2_with fail
 exact ⟨rfl,_,rfl,_,results_none rfl _ _ _,rfl,rfl,HE1.out,HE2.out⟩
theorem isAgL(w:World):(isAgg 31).run Tryz.prog w = .ok false w:=Go.Proofs.run_isAgg_plain Tryz.underlying31 rfl w
theorem res3{g:Nat}{v a e:Value}{W:World}(h:R3 W g v a e)(tmps:Array Value)(h2:tmps.getD 2 undef = .pointer (some ⟨g,0,none⟩))(h3:tmps.getD 3 undef = .pointer (some ⟨g+1,0,none⟩))(h4:tmps.getD 4 undef = .pointer (some ⟨g+2,0,none⟩)) :
  (results Tryz.f29 tmps).run Tryz.prog W = .ok (.tuple #[v,a,e]) W:=
 q1L rfl tmps W g (g+1) (g+2) v a e h2 h3 h4 (q03 (isAgL W) (h.1.cell 0)) (q03 (isAgI W) (h.2.1.cell 0)) (q03 (isAgE W) (h.2.2.cell 0))
theorem boxes4(w:World)(cs:Array Value):∃ w0,(((w.alloc (.cells cs 26)).alloc (.cells #[.slice none 0 0] 31)).alloc (.cells #[.int .i64 0] 3)).alloc (.cells #[.int .i64 0] 27)=w0/\Below w.heap.size w w0/\w0.heap.size=w.heap.size+4 /\
  Blk w0 w.heap.size 26 cs/\R3 w0 (w.heap.size+1) (.slice none 0 0) (.int .i64 0) (.int .i64 0):=by
 refine ⟨_,rfl,((((Below.refl _ _).alloc (Nat.le_refl _) _).alloc V3 _).alloc V4 _).alloc V4 _,V3,(((Blk.new _ _ _).alloc _).alloc _).alloc _,?_,?_,?_⟩
 ·have h:=((Blk.new (w.alloc (.cells cs 26)) 31 #[.slice none 0 0]).alloc (.cells #[.int .i64 0] 3)).alloc (.cells #[.int .i64 0] 27);exact V3X
 ·have h:=(Blk.new ((w.alloc (.cells cs 26)).alloc (.cells #[.slice none 0 0] 31)) 3 #[.int .i64 0]).alloc (.cells #[.int .i64 0] 27);have e:((w.alloc (.cells cs 26)).alloc (.cells #[.slice none 0 0] 31)).heap.size=w.heap.size+2:=V3;rw [e] at h;exact h
 ·have h:=Blk.new (((w.alloc (.cells cs 26)).alloc (.cells #[.slice none 0 0] 31)).alloc (.cells #[.int .i64 0] 3)) 27 #[.int .i64 0];have e:(((w.alloc (.cells cs 26)).alloc (.cells #[.slice none 0 0] 31)).alloc (.cells #[.int .i64 0] 3)).heap.size=w.heap.size+3:=V3;rw [e] at h;exact h
def LabP(w:World)(r:Rf Sf)(e:Ending)(w':World):Prop:=
 match r with
 | .bad a er=>er≠0/\e = .returned (.tuple #[.slice none 0 0,.int .i64 a,.int .i64 (er:Int)])/\Below w.heap.size w w'
 | .ok c=>c.ou.length<=maxLen/\(∃ A k,e = .returned (.tuple #[.slice A c.ou.length k,.int .i64 0,.int .i64 0])/\w'.ownsRow w.heap.size 36 3 (.slice A c.ou.length k) c.ou.length (c.ou.flatMap lbC))/\Below w.heap.size w w'
theorem flB_ts{z:Tz}:flB worB XM 61 2000 z=xTs (fuz z) 0 (lz z) init:=rfl
theorem labels_(z:Tz)(w:World)(k a:Int)(s:Bs)(n:Nat)(A:Option Addr)(la cA:Nat)(B:Option Addr)(lb cB:Nat)(hT:TrV w z k a s n A la cA B lb cB)(hk:nbz z<=134217728)(hok:okSs (fuz z) 0 (lz z)/\okF (fuz z) (fuz z)) :
  Calls Tryz.prog 29 #[nzA k a s n A la cA B lb cB] w (LabP w (flB worB XM 61 2000 z)):=by
 rw [flB_ts];obtain ⟨k1,a1,s1,n1,ps,l⟩:=z;obtain ⟨rfl,rfl,rfl,rfl,rfl,rfl,hP,-,-,-,-,-,-⟩:=hT.parts;have hnb:nbz (.mk k a s n ps l)=ps.length+1+nbzs l:=rfl;obtain ⟨wn,hwn,hbn,hsn,hXn,hRn⟩:=boxes4 w (nB k a s n A l.length cA B ps.length cB);obtain ⟨g0,hg0⟩:∃ g0,w.heap.size=g0:=⟨_,rfl⟩;rw [hg0] at hXn hRn hsn;obtain ⟨w1,hw1⟩:∃ u,wn.alloc (.map #[] 0)=u:=⟨_,rfl⟩;obtain ⟨w2,hw2⟩:∃ u,w1.alloc (.map #[] 0)=u:=⟨_,rfl⟩;obtain ⟨w3,hw3⟩:∃ u,w2.alloc (.map #[] 0)=u:=⟨_,rfl⟩;obtain ⟨w4,hw4⟩:∃ u,w3.alloc (.cells #[.map (some (g0+4)),.map (some (g0+6)),.slice none 0 0,.map (some (g0+5)),.int .i64 0,.int .i64 0,.int .i64 0] 118)=u:=⟨_,rfl⟩;have hs1:w1.heap.size=g0+5:=by rw [<-hw1];simp [hsn]
 have hs2:w2.heap.size=g0+6:=V0o;have hs3:w3.heap.size=g0+7:=V24;have hb1:Below wn.heap.size wn w1:=V46;have hb2:Below w1.heap.size w1 w2:=V1H;have hb3:Below w2.heap.size w2 w3:=V0M;have hb4:Below w3.heap.size w3 w4:=V49;have hmk1:(Instr.makeMap 116 none).run Tryz.prog wn = .ok (.map (some (g0+4))) w1:=by rw [<-hw1,<-hsn];exact run_makeMap _ _
 have hmk2:(Instr.makeMap 116 none).run Tryz.prog w1 = .ok (.map (some (g0+5))) w2:=V1J;have hmk3:(Instr.makeMap 73 none).run Tryz.prog w2 = .ok (.map (some (g0+6))) w3:=by rw [<-hw3,<-hs2];exact run_makeMap _ _
 have hm1:MpW w1 (g0+4) 0 (fun _=>none):=by rw [<-hw1,<-hsn];exact MpG.made codW wn
 have hm2:MpW w2 (g0+5) 0 (fun _=>none):=by rw [<-hw2,<-hs1];exact MpG.made codW w1
 have hm3:MpN w3 (g0+6) 0 (fun _=>none):=by rw [<-hw3,<-hs2];exact MpG.made codN w2
 have hX4:Blk w4 (g0+7) 118 (gxA ⟨g0+7,g0+4,g0+6,g0+5⟩ (.slice none 0 0) 0 0 0):=by rw [<-hs3,<-hw4];exact Blk.new _ _ _
 have hb24:=hb3.trans (hb4.mono hb3.size);have hb14:=hb2.trans (hb24.mono hb2.size);have hbn4:=hb1.trans (hb14.mono hb1.size);have hb04:=hbn.trans (hbn4.mono hbn.size);have hF4:FuM w w4 (g0+6) 0 (fun _=>none):=⟨_,hm3.upd (Upd.of_below hb4 fun _=>False) id,fun s=>rfl⟩;have hXN4:=hXn.below hbn4 hXn.lt;have hR4:=hRn.upd (Upd.of_below hbn4 fun _=>False) ⟨id,id,id⟩;have HLE:=Hi (q4c (w0:=w) (SizeOf.sizeOf l+1) l (Nat.lt_succ_self _) w4 (g0+7) (g0+6) 0 (fun _=>none) A cA _ hb04 V0 V0 hF4 V0 hX4 rfl hP);have HM1:=Hi (hm1.upd (Upd.of_below hb14 fun _=>False) id);have HM2:=Hi (hm2.upd (Upd.of_below hb24 fun _=>False) id);have HX4:=Hi hX4;have HXN4:=Hi hXN4;have HR4:=Hi hR4;have HB4:=Hi hb04;have HW:=Hi hwn;have HW4:=Hi hw4;have HP:=Hi hP;have HOK:=Hi hok;have HK:=Hi (show nbzs l<=134217728 from V0);have HG0:=Hi hg0;have HSN:=Hi hsn;have HS3:=Hi hs3;obtain ⟨⟨e0,e1,e2,e3,e4,e5⟩,z0,z1,z2,z3,z4,z5⟩:=Blk.c6 hXN4;have hgx:=hXN4.lt;have hmf:∀ (fn:Fn) (first cap:Array Value) (w:World),(Instr.makeFunc fn first cap).run Tryz.prog w = .ok (.func fn first cap) w:=fun _ _ _ _=>rfl
 have hfz:fuz (.mk k a s n ps l)=lnTs 0 l fun _=>none:=rfl
 have HFZ:=Hi hfz;obtain ⟨fu,hfu⟩:∃ fu,fuz (.mk k a s n ps l)=fu:=⟨_,rfl⟩;rw [hfu] at HOK HFZ;obtain ⟨res,hres⟩:∃ res,xTs fu 0 l init=res:=⟨_,rfl⟩;have hgoal:xTs (fuz (.mk k a s n ps l)) 0 (lz (.mk k a s n ps l)) init=res:=by rw [hfu];exact hres
 rw [hgoal];have HRES:=Hi hres;clear hT hk hok hP hnb hwn hbn hXn hRn hw1 hw2 hw3 hw4 hs1 hs2 hb1 hb2 hb3 hb4 hm1 hm2 hm3 hX4 hb24 hb14 hbn4 hb04 hF4 hXN4 hR4 hfz hfu hres hgoal hs3
 go_enter_defers Tryz.func29,Tryz.ntmps29
 go_upto_region 1 with fail
 simp only [Nat.add_assoc,Nat.reduceAdd];rw [HW.out];go_upto_region 3 with fail
 (try simp only [HS3.out]);rw [HW4.out];clear hmk1 hmk2 hmk3;go_wp2_with fail
 refine (show Calls Tryz.prog 61 #[.pointer (some ⟨g0+7,0,none⟩),.slice A l.length cA] w4 _ from HLE.out).mono ?_;rintro e w5 ⟨rfl,hF5,hu5⟩;rw [Nat.zero_add,<-HFZ.out] at hF5;have hX5:=HX4.out.upd hu5 V0;have hXN5:=HXN4.out.upd hu5 V0;have hR5:=HR4.out.upd hu5 ⟨V0,V0,V0⟩;have hB5:=HB4.out.trans (hu5.below (B:=w.heap.size) HB4.out.size fun b hb=>VG);have hG5:CG w w5 ⟨g0+7,g0+4,g0+6,g0+5⟩ (.slice none 0 0) fu (fun _=>none) init (fun _=>none) 0:=by
  refine ⟨hX5,HM1.out.upd hu5 V0,HM2.out.upd hu5 V0,fun s=>rfl,fun s hs=>(by cases hs),⟨_,hF5⟩,World.ownsRow_nil _ _ _ _,⟨by show g0+4≠g0+7;omega,by show g0+5≠g0+7;omega,by show g0+6≠g0+7;omega,by show g0+5≠g0+4;omega,by show g0+6≠g0+4;omega,by show g0+6≠g0+5;omega,fun b hb=>(by cases hb)⟩,fun b hb=>?_,Nat.le_refl _,Nat.zero_le _,hB5,HOK.out.2⟩;have h0:=HG0.out;rcases hb with h | h | h | h
  ·have h':b=g0+7:=h;omega
  ·have h':b=g0+4:=h;omega
  ·have h':b=g0+5:=h;omega
  ·cases h
 have HST:=Hi (statements_ (fu:=fu) l (fun y _=>q8B (SizeOf.sizeOf y+1) y (Nat.lt_succ_self _)) w5 ⟨g0+7,g0+4,g0+6,g0+5⟩ (.slice none 0 0) (fun _=>none) init (fun _=>none) 0 A cA hG5 HK.out (by have:=HK.out;show 0+nbzs l<=(0+1) * 134217728;omega) HP.out HOK.out.1);rw [HRES.out] at HST;have HB5:=Hi hB5;have HR5:=Hi hR5;clear e0 e1 e2 e3 e4 e5 z0 z1 z2 z3 z4 z5 hgx;obtain ⟨⟨e0,e1,e2,e3,e4,e5⟩,z0,z1,z2,z3,z4,z5⟩:=Blk.c6 hXN5;have hgx:=hXN5.lt;clear hF5 hu5 hX5 hXN5 hR5 hB5 hG5 HLE;go_wp2_with fail
 refine (show Calls Tryz.prog 62 #[.pointer (some ⟨g0+7,0,none⟩),.slice A l.length cA] w5 _ from HST.out).mono ?_;intro e w6 h6;clear e0 e1 e2 e3 e4 e5 z0 z1 z2 z3 z4 z5 hgx;have hno:∀ b,b=g0+1\/b=g0+2\/b=g0+3->¬ ow ⟨g0+7,g0+4,g0+6,g0+5⟩ (.slice none 0 0) b:=fun b hb h=>by
  exact V37
 have hlo:∀ b,ow ⟨g0+7,g0+4,g0+6,g0+5⟩ (.slice none 0 0) b->w.heap.size<=b:=fun b h=>by
  have h0:=HG0.out;exact V37
 cases res with
 | bad a1 er1=>
  obtain ⟨rfl,hu6⟩:=h6;have hR6:=HR5.out.upd hu6 ⟨hno _ (.inl rfl),hno _ (.inr (.inl rfl)),hno _ (.inr (.inr rfl))⟩;have HB6:=Hi (HB5.out.trans (hu6.below (B:=w.heap.size) HB5.out.size hlo));have HR6:=Hi hR6;have HER:=Hi (show er1≠0 from by
   have h:=q3v (num:=worB) (M:=XM) (D:=61) (R:=2000) (fu:=fu) 0 l init;rw [show sfTs worB XM 61 2000 fu 0 l init = .bad a1 er1 from HRES.out] at h;exact h)
  clear hu6 hR6 hno hlo;go_wp2_with fail
  refine leaves_cons (f:=60) (args:=#[.pointer (some ⟨g0+1,0,none⟩),.pointer (some ⟨g0+2,0,none⟩),.pointer (some ⟨g0+3,0,none⟩)]) V3 VN ?_;refine (catch_wrong (g0+1) a1 er1 w6 HR6.out).mono ?_;rintro e u' w7 ⟨rfl,rfl,hR7,hU7⟩;exact ⟨_,res3 hR7 _ rfl rfl rfl,HER.out,rfl,HB6.out.trans (hU7.below (B:=w.heap.size) HB6.out.size fun b hb=>VG)⟩
 | ok d=>
  obtain ⟨rfl,vl6,fm6,m6,hG6,hN6,hu6,hb6,hr6⟩:=h6;simp only [show init.rd = 0 from rfl,Nat.zero_mul,Nat.add_zero,Nat.zero_add] at hb6;clear hr6;have hR6:=HR5.out.upd hu6 ⟨hno _ (.inl rfl),hno _ (.inr (.inl rfl)),hno _ (.inr (.inr rfl))⟩;have hB6:=HB5.out.trans (hu6.below (B:=w.heap.size) HB5.out.size hlo);obtain ⟨vA,vc,rfl⟩:=q0x hG6.lab;obtain ⟨q0,q1,q2,q3,q4,q5,q6⟩:=Blk.c7 hG6.blk;have hgl:=hG6.blk.lt;obtain ⟨c1,c2,c3,f1,f2,f3,hg3⟩:=hR6.cells;have hR7:=hR6.put (.slice vA d.ou.length vc) (.int .i64 0) (.int .i64 0);have hU7:=R3.put_upd (Upd.refl (fun b=>b=g0+1\/b=g0+1+1\/b=g0+1+2) w6) (.slice vA d.ou.length vc) (.int .i64 0) (.int .i64 0);have hns:∀ b,(Value.slice vA d.ou.length vc).ownBlock=some b->¬ (b=g0+1\/b=g0+1+1\/b=g0+1+2):=fun b hb h=>by
   rcases hN6 with h1 | ⟨n1,h1,h2⟩
   ·rw [h1] at hb;cases hb
   ·rw [h2] at hb;cases hb;have hz:=HR5.out.2.2.lt;omega
  have hL7:=Nm.own_updV hG6.lab hU7 hns;have hou:d.ou.length<=maxLen:=by
   have h1:=hG6.oub;have h2:=hG6.rdb;have h3:=HK.out;unfold maxLen;omega
  have HEND:=Hi (show LabP w (.ok d) (.returned (.tuple #[.slice vA d.ou.length vc,.int .i64 0,.int .i64 0])) _ from ⟨hou,⟨vA,vc,rfl,hL7⟩,hB6.trans (hU7.below (B:=w.heap.size) hB6.size fun b hb=>VG)⟩);have HR7:=Hi hR7;have g01:g0+1≠g0+2:=V0;have g02:g0+1≠g0+3:=V0;have g12:g0+2≠g0+3:=V0;clear hG6 hN6 hu6 hb6 hR6 hB6 hR7 hU7 hns hL7 hou hno hlo;go_wp2_with fail
  refine leaves_cons (f:=60) (args:=#[.pointer (some ⟨g0+1,0,none⟩),.pointer (some ⟨g0+2,0,none⟩),.pointer (some ⟨g0+3,0,none⟩)]) V3 VN ?_;refine (catch_idle ⟨g0+1,0,none⟩ ⟨g0+2,0,none⟩ ⟨g0+3,0,none⟩ _).mono ?_;rintro e u' w7 ⟨rfl,rfl,rfl⟩;exact ⟨_,res3 HR7.out _ rfl rfl rfl,HEND.out⟩
end Fl
namespace Pa
open Lx
section
variable {num : Bs -> Nat × Nat}
def Ev(K:Nat->OO)(o:Out):Prop:=∃ g,∀ f,g<=f->K f=some o
def Rd(num:Bs->Nat×Nat)(nt:NT)(d:Nat)(l:List Tk)(o:Out):Prop:=Ev (fun f=>pF num f nt d l) o
theorem Rd.at_{nt:NT}{d:Nat}{l:List Tk}{o:Out}(h:Rd num nt d l o):∃ f,pF num f nt d l=some o:=by
 obtain ⟨g,hg⟩:=h;exact ⟨g,hg g (Nat.le_refl _)⟩
theorem Rd.one{nt:NT}{d:Nat}{l:List Tk}{o o':Out}(h:Rd num nt d l o)(h':Rd num nt d l o'):o=o':=by
 obtain ⟨f,hf⟩:=h.at_;obtain ⟨g,hg⟩:=h'.at_;exact pF_one hf hg
theorem q09(o:Out):Ev (fun _=>some o) o:=⟨0,fun _ _=>rfl⟩
theorem q0y{A:Nat->OO}{K:Nat->List Tr->List Tk->OO}{xs:List Tr}{r:List Tk}{o:Out}(h:Ev A (.ok xs r))(h2:Ev (fun f=>K f xs r) o):Ev (fun f=>bnd (A f) (K f)) o:=by
 obtain ⟨a,ha⟩:=h;obtain ⟨b,hb⟩:=h2;refine ⟨max a b,fun f hf=>?_⟩;show bnd (A f) (K f)=_;rw [ha f (Nat.le_trans (Nat.le_max_left _ _) hf)];exact hb f (Nat.le_trans (Nat.le_max_right _ _) hf)
theorem q10{A:Nat->OO}{K:Nat->List Tr->List Tk->OO}{a e:Nat}(h:Ev A (.bad a e)):Ev (fun f=>bnd (A f) (K f)) (.bad a e):=by
 obtain ⟨g,hg⟩:=h;refine ⟨g,fun f hf=>?_⟩;show bnd (A f) (K f)=_;rw [hg f hf];rfl
theorem q0k{nt:NT}{d:Nat}{l:List Tk}{o:Out}{K:Nat->OO}(h:Ev K o)(he:∀ f,pF num (f+1) nt d l=K f):Rd num nt d l o:=by
 obtain ⟨g,hg⟩:=h;refine ⟨g+1,fun f hf=>?_⟩;obtain ⟨k,rfl⟩:∃ k,f=k+1:=⟨f - 1,V0⟩;show pF num (k+1) nt d l=_;rw [he];exact hg k V0
theorem r_lev{n d:Nat}{l r:List Tk}{xs:List Tr}{o:Out}(hn:n < 5)(h:Rd num (.lev (n+1)) d l (.ok xs r))(h2:Rd num (.more n (hd xs)) d r o):Rd num (.lev n) d l o:=
 q0k (q0y (K:=fun f xs r=>pF num f (.more n (hd xs)) d r) h h2) fun f=>by
  conv=>lhs;unfold pF
  rw [if_pos hn]
theorem q2L{n d a e:Nat}{l:List Tk}(hn:n < 5)(h:Rd num (.lev (n+1)) d l (.bad a e)):Rd num (.lev n) d l (.bad a e):=
 q0k (q10 (K:=fun f xs r=>pF num f (.more n (hd xs)) d r) h) fun f=>by
  conv=>lhs;unfold pF
  rw [if_pos hn]
theorem q6I{n d:Nat}{l:List Tk}{x:Tr}(h:∀ t r,l=t :: r->onS n t=false):Rd num (.more n x) d l (.ok [x] l):=
 q0k (q09 _) fun f=>by
  cases l with
  | nil=>rfl
  | cons t r=>
   conv=>lhs;unfold pF
   simp only;rw [if_neg (by rw [h t r rfl];decide)]
def bin(n:Nat)(x:Tr)(s:Bs)(ys:List Tr):Tr:=.mk (if n = 3 then 4 else 3) x.place s 0 [] (x :: ys)
theorem r_go{n d:Nat}{t:Tk}{r r':List Tk}{x:Tr}{ys:List Tr}{o:Out}(ht:onS n t=true)(h:Rd num (.lev (n+1)) d r (.ok ys r'))(h2:Rd num (.more n (bin n x t.s ys)) d r' o):Rd num (.more n x) d (t :: r) o:=
 q0k (q0y (K:=fun f ys r'=>pF num f (.more n (bin n x t.s ys)) d r') h h2) fun f=>by
  conv=>lhs;unfold pF
  simp only;rw [if_pos ht];rfl
theorem q5t{n d a e:Nat}{t:Tk}{r:List Tk}{x:Tr}(ht:onS n t=true)(h:Rd num (.lev (n+1)) d r (.bad a e)):Rd num (.more n x) d (t :: r) (.bad a e):=
 q0k (q10 (K:=fun f ys r'=>pF num f (.more n (bin n x t.s ys)) d r') h) fun f=>by
  conv=>lhs;unfold pF
  simp only;rw [if_pos ht];rfl
def Stp(n:Nat)(l:List Tk):Prop:=∀ t r,l=t :: r->∀ m,n<=m->m < 5->onS m t=false
theorem lev_stp:∀ (f:Nat),(∀ (n d:Nat) (l r:List Tk) (xs:List Tr),pF num f (.lev n) d l=some (.ok xs r)->Stp n r) /\
  (∀ (n:Nat) (x:Tr) (d:Nat) (l r:List Tk) (xs:List Tr),Stp (n+1) l->pF num f (.more n x) d l=some (.ok xs r)->Stp n r):=by
 intro f
 induction f with
 | zero=>exact ⟨fun n d l r xs h=>(by cases h),fun n x d l r xs _ h=>(by cases h)⟩
 | succ f ih=>
  refine ⟨fun n d l r xs h=>?_,fun n x d l r xs hs h=>?_⟩
  ·by_cases hn:n < 5
   ·unfold pF at h;rw [if_pos hn] at h;rcases h1:pF num f (.lev (n+1)) d l with _ | ⟨ys,r1⟩ | ⟨a,e⟩
    ·rw [h1] at h;cases h
    ·rw [h1] at h;exact ih.2 n _ d r1 r xs (ih.1 _ _ _ _ _ h1) h
    ·rw [h1] at h;cases h
   ·intro t r' _ m h1 h2;omega
  ·cases l with
   | nil=>
    unfold pF at h;simp only [Option.some.injEq,Out.ok.injEq] at h;obtain ⟨_,rfl⟩:=h;intro t r' h;cases h
   | cons t r0=>
    unfold pF at h;simp only at h;by_cases ht:onS n t=true
    ·rw [if_pos ht] at h;rcases h1:pF num f (.lev (n+1)) d r0 with _ | ⟨ys,r1⟩ | ⟨a,e⟩
     ·rw [h1] at h;cases h
     ·rw [h1] at h;exact ih.2 n _ d r1 r xs (ih.1 _ _ _ _ _ h1) h
     ·rw [h1] at h;cases h
    ·rw [if_neg ht] at h;simp only [Option.some.injEq,Out.ok.injEq] at h;obtain ⟨_,rfl⟩:=h;intro t' r' e m h1 h2;cases e;by_cases hm:m=n
     ·subst hm;simpa using ht
     ·exact hs t r0 rfl m V0 h2
theorem Rd.stp{n d:Nat}{l r:List Tk}{xs:List Tr}(h:Rd num (.lev n) d l (.ok xs r)):Stp n r:=by
 obtain ⟨f,hf⟩:=h.at_;exact (lev_stp f).1 _ _ _ _ _ hf
def Ch(num:Bs->Nat×Nat)(j d:Nat):Nat->Tr->List Tk->Out->Prop
 | 0,x,r,o=>o = .ok [x] r
 | m+1,x,r,o=>(∃ y r',Rd num (.more (j+m) x) d r (.ok [y] r')/\Ch num j d m y r' o)\/(∃ a e,Rd num (.more (j+m) x) d r (.bad a e)/\o = .bad a e)
theorem q8C{j d:Nat}{l:List Tk}{o:Out}:∀ (m:Nat) (x:Tr) (r:List Tk),j+m<=5->Rd num (.lev (j+m)) d l (.ok [x] r)->Ch num j d m x r o->Rd num (.lev j) d l o
 | 0,x,r,_,h,hc=>by
  have:o = .ok [x] r:=hc;subst this;exact h
 | m+1,x,r,hm,h,hc=>by
  rcases hc with ⟨y,r',h1,h2⟩ | ⟨a,e,h1,rfl⟩
  ·exact q8C m y r' V0 (r_lev V0 h h1) h2
  ·have h3:Rd num (.lev (j+m)) d l (.bad a e):=r_lev V0 h h1;clear h h1
   induction m with
   | zero=>exact h3
   | succ m ih=>exact ih V0 (q2L V0 h3)
theorem q4e{n d:Nat}{x:Tr}{r:List Tk}{o:Out}(h:∀ t r',r=t :: r'->onS n t=false)(hr:Rd num (.more n x) d r o):o = .ok [x] r:=hr.one (q6I h)
theorem q2M{j d:Nat}{o:Out}{x:Tr}{r:List Tk}:∀ (m n:Nat),n<=m->j+m<=5->(∀ t r',r=t :: r'->∀ i,j+n<=i->i < 5->onS i t=false)->(Ch num j d m x r o↔Ch num j d n x r o)
 | 0,n,hn,_,_=>by
  obtain rfl:n = 0:=V0;exact Iff.rfl
 | m+1,n,hn,hm,h=>by
  by_cases e:n=m+1
  ·subst e;exact Iff.rfl
  ·refine Iff.trans ?_ (q2M m n V0 V0 h);have hs:∀ t r',r=t :: r'->onS (j+m) t=false:=fun t r' e=>h t r' e _ V0 V0
   constructor
   ·rintro (⟨y,r',h1,h2⟩ | ⟨a,e,h1,_⟩)
    ·have:=q4e hs h1;simp only [Out.ok.injEq,List.cons.injEq,and_true] at this;obtain ⟨rfl,rfl⟩:=this;exact h2
    ·have:=q4e hs h1;cases this
   ·intro h2;exact .inl ⟨x,r,q6I hs,h2⟩
theorem ch_sign{j d m q:Nat}{o:Out}{x:Tr}{t:Tk}{r r':List Tk}{ys:List Tr}(hm:j+m = 5)(hq:j<=q)(hq5:q < 5)(ht:∀ i,i < 5->onS i t=decide (i=q))(h1:Rd num (.lev (q+1)) d r (.ok ys r'))
  (h2:Ch num j d m (bin q x t.s ys) r' o):Ch num j d m x (t :: r) o:=by
 obtain ⟨k,rfl⟩:∃ k,q=j+k:=⟨q - j,V0⟩;refine (q2M m (k+1) V0 V0 fun t' r0 e i hi h5=>?_).2 ?_
 ·cases e;rw [ht i h5];simp;omega
 ·have hstp:=h1.stp;have h3:=(q2M m (k+1) V0 V0 fun t' r0 e i hi h5=>hstp t' r0 e i V0 h5).1 h2;have hon:onS (j+k) t=true:=by rw [ht _ hq5];simp
  rcases h3 with ⟨y,r2,h4,h5⟩ | ⟨a,e,h4,rfl⟩
  ·exact .inl ⟨y,r2,r_go hon h1 h4,h5⟩
  ·exact .inr ⟨a,e,r_go hon h1 h4,rfl⟩
theorem q4N{j d m q a e:Nat}{x:Tr}{t:Tk}{r:List Tk}(hm:j+m = 5)(hq:j<=q)(hq5:q < 5)(ht:∀ i,i < 5->onS i t=decide (i=q))(h1:Rd num (.lev (q+1)) d r (.bad a e)) :
  Ch num j d m x (t :: r) (.bad a e):=by
 obtain ⟨k,rfl⟩:∃ k,q=j+k:=⟨q - j,V0⟩;refine (q2M m (k+1) V0 V0 fun t' r0 e i hi h5=>?_).2 ?_
 ·cases e;rw [ht i h5];simp;omega
 ·exact .inr ⟨a,e,q5t (by rw [ht _ hq5];simp) h1,rfl⟩
theorem ch_end{j d m:Nat}{x:Tr}{r:List Tk}(hm:j+m<=5)(h:∀ t r',r=t :: r'->∀ i,j<=i->i < 5->onS i t=false):Ch num j d m x r (.ok [x] r):=
 (q2M m 0 V0 hm Vf).2 rfl
end
end Pa
end Go.Proofs.YtcgibpdjfgjldaaGreatDoor
