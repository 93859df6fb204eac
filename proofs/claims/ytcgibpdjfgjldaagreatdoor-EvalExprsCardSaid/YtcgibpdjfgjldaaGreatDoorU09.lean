/- DERIVED. NmEx, NmIn, NmLt, NmOu. By an AI agent. -/
import Derived.Test.YtcgibpdjfgjldaaGreatDoorU08
set_option maxRecDepth 100000
set_option maxHeartbeats 8000000
set_option linter.unusedVariables false
set_option linter.unusedSimpArgs false
open Go Go.ChangeShapes Go.WideShapes Go.ChangeAt Go.RowKit
namespace Go.Proofs.YtcgibpdjfgjldaaGreatDoor
namespace Nm
open Lx Args Pa Sh
structure IsN(w:World)(G:FuncId)(r:Value)(isN:Bs->Bool):Prop where
 enter:∀ (a:Value) (w:World),(callFunc G #[r,a]).run Tryz.prog w = .ok (.enter G #[r,a]) w
 call:∀ w',Below w.heap.size w w'->∀ s:Bs,s.length<=maxLen->Calls Tryz.prog G #[r,.string ⟨s.toArray⟩] w' (TellP w' (isN s))
theorem IsN.below{w w':World}{G:FuncId}{r:Value}{isN:Bs->Bool}(h:IsN w G r isN)(hb:Below w.heap.size w w'):IsN w' G r isN:=⟨h.enter,fun v hv=>h.call v (hb.trans (hv.mono hb.size))⟩
def exF(isN:Bs->Bool)(cal:Bs->Nat->Bool):Tz->Unit->Int ⊕ Unit
 | .mk k a s _ _ l,_=>if (k = 1/\isN s=false)\/(k = 5/\cal s l.length=false) then .inl a else .inr ()
def toS(o:Option Int):Int ⊕ Unit:=match o with | some a=>.inl a | none=>.inr ()
mutual
theorem q6i(isN:Bs->Bool)(cal:Bs->Nat->Bool):∀ z,foldT (exF isN cal) z ()=toS (exB isN cal z)
 | .mk k a s n ps l=>by
  rw [q5e];unfold exB;by_cases h:(k = 1/\isN s=false)\/(k = 5/\cal s l.length=false)
  ·rw [if_pos h,show exF isN cal (.mk k a s n ps l) () = .inl a from if_pos h];rfl
  ·rw [if_neg h,show exF isN cal (.mk k a s n ps l) () = .inr () from if_neg h];exact q5i isN cal l
theorem q5i(isN:Bs->Bool)(cal:Bs->Nat->Bool):∀ l,foldTs (exF isN cal) l ()=toS (exBs isN cal l)
 | []=>by unfold foldTs exBs;rfl
 | x :: l=>by
  rw [q2G,q6i isN cal x];unfold exBs;cases exB isN cal x with
  | some a=>rfl
  | none=>exact q5i isN cal l
end
def ExP(w:World)(o:Option Int)(e:Ending)(w':World):Prop:=match o with | some a=>e=panW a/\Below w.heap.size w w' | none=>e = .returned (.tuple #[])/\Below w.heap.size w w'
theorem exprs1{wE:World}{g:Nat}{kn:Kn}{G:FuncId}{r:Value}{isN:Bs->Bool}{b1 b2:Nat}(hk:KnP wE g kn)(hI:IsN wE G r isN)(h1:wE.cell? ⟨b1,0,none⟩=some (.func (.func G) #[r] #[]))(h2:wE.cell? ⟨b2,0,none⟩=some (.pointer (some ⟨g,0,none⟩)))
  (w:World) (hb:Below wE.heap.size wE w) (k a:Int) (s:Bs) (n:Nat) (A:Option Addr) (la cA:Nat) (B:Option Addr) (lb cB:Nat) (hs:s.length<=maxLen) (hla:la<=maxLen) :
  Calls Tryz.prog 191 #[nzA k a s n A la cA B lb cB,.pointer (some ⟨b1,0,none⟩),.pointer (some ⟨b2,0,none⟩)] w (ExP w (if (k = 1/\isN s=false)\/(k = 5/\callB kn s la=false) then some a else none)):=by
 obtain ⟨wn,hwn,hbn,hXn,hsn⟩:=q05 w (nB k a s n A la cA B lb cB);have hbE:=hb.trans (hbn.mono hb.size);have HBX:=Hi fun v (hv:Below wE.heap.size wE v)=>And.intro ((hv.cell (World.block_lt_of_cell? wE _ h1)).trans h1) ((hv.cell (World.block_lt_of_cell? wE _ h2)).trans h2)
 have HK:=Hi fun v (hv:Below wE.heap.size wE v)=>isCalled v g kn (hk.below hv) s hs la
 have HN:=Hi fun v (hv:Below wE.heap.size wE v)=>hI.call v hv s hs
 have hen:=hI.enter;have HBE:=Hi hbE;have HWN:=Hi hwn;have HBN:=Hi hbn;have HXN:=Hi hXn;obtain ⟨⟨e0,e1,e2,e3,e4,e5⟩,z0,z1,z2,z3,z4,z5⟩:=Blk.c6 hXn;have hlam:la<=9223372036854775807:=hla;clear hk hI h1 h2 hb hbn hXn hwn hbE hsn hla;obtain ⟨res,hres⟩:∃ res,(if (k = 1/\isN s=false)\/(k = 5/\callB kn s la=false) then some a else none)=res:=⟨_,rfl⟩;rw [hres];have HRES:=Hi hres;clear hres;go_enter Tryz.func191,Tryz.ntmps191;by_cases hk1:k = 1
 ·subst hk1;go_wp2_with fail
  rw [HWN.out];have hdr:Below wn.heap.size wn wn.drew:=Below.drew (Below.refl _ _);obtain ⟨wd,hwd⟩:∃ v,wn.drew=v:=⟨_,rfl⟩;rw [hwd] at hdr;have HXd:=Hi (HXN.out.below hdr HXN.out.lt);have HBd:=Hi (HBE.out.trans (hdr.mono HBE.out.size));have HBW:=Hi (HBN.out.trans (hdr.mono HBN.out.size));clear hdr e0 e1 e2 e3 e4 e5 z0 z1 z2 z3 z4 z5;have hZ0:Below wd.heap.size wd wd:=Below.refl _ _;refine HT.wp_region (Z:=fun w'=>Below wd.heap.size wd w') (S:=fun _=>True) (st:=[]) V1 ?_;rw [hwd];clear hwd;refine HT.k 0 rfl Vn hZ0 ?_;refine HT.k 1 rfl Vn hZ0 ?_;refine HT.k 2 rfl Vn hZ0 ?_;refine HT.k 3 rfl Vn hZ0 ?_;have HC:=Hi (HN.out wd HBd.out);refine HT.one (i:=4) V1 rfl (fun K hK=>?_);go_simp;refine HC.out.mono ?_;rintro e w5 ⟨rfl,hb5⟩;(try dsimp only);refine hK.out _ _ hb5 trivial ?_;clear hK K;(try simp only [HT.pS]);refine HT.m 5 hb5 ?_;have HR:=Hi (refuse w5 1 a s n A la cA B lb cB (!isN s));have HB5:=Hi (HBW.out.trans (hb5.mono HBW.out.size));obtain ⟨q,hq⟩:∃ q,isN s=q:=⟨_,rfl⟩;rw [hq] at HR ⊢;have HRES2:=Hi (show (if q=false then some a else none)=res by rw [<-HRES.out,hq];simp);clear HC HN HK HBX hq HRES;cases q with
  | true=>
   refine HT.one (i:=6) V1 rfl (fun K hK=>?_);go_simp;refine (show Calls Tryz.prog 162 #[nzA 1 a s n A la cA B lb cB,.bool false] w5 _ from HR.out).mono ?_;exact V2s
  | false=>
   refine HT.one (i:=6) V1 rfl (fun K hK=>?_);go_simp;refine (show Calls Tryz.prog 162 #[nzA 1 a s n A la cA B lb cB,.bool true] w5 _ from HR.out).mono ?_;exact V32
 by_cases hk5:k = 5
 ·subst hk5;go_wp2_with fail
  rw [HWN.out];have hdr:Below wn.heap.size wn wn.drew:=Below.drew (Below.refl _ _);obtain ⟨wd,hwd⟩:∃ v,wn.drew=v:=⟨_,rfl⟩;rw [hwd] at hdr;have HXd:=Hi (HXN.out.below hdr HXN.out.lt);have HBd:=Hi (HBE.out.trans (hdr.mono HBE.out.size));have HBW:=Hi (HBN.out.trans (hdr.mono HBN.out.size));clear hdr e0 e1 e2 e3 e4 e5 z0 z1 z2 z3 z4 z5;have hZ0:Below wd.heap.size wd wd:=Below.refl _ _;refine HT.wp_region (Z:=fun w'=>Below wd.heap.size wd w') (S:=fun _=>True) (st:=[]) V1 ?_;rw [hwd];clear hwd;refine HT.k 0 rfl Vn hZ0 ?_;refine HT.k 1 rfl Vn hZ0 ?_;refine HT.k 2 rfl Vn hZ0 ?_;refine HT.k 3 rfl Vn hZ0 ?_;refine HT.k 4 rfl Vn hZ0 ?_;refine HT.k 5 rfl Vn hZ0 ?_;refine HT.k 6 rfl Vn hZ0 ?_;have HC:=Hi (HK.out wd HBd.out);refine HT.one (i:=7) V1 rfl (fun K hK=>?_);go_simp;refine HC.out.mono ?_;rintro e w5 ⟨rfl,hb5⟩;(try dsimp only);refine hK.out _ _ hb5 trivial ?_;clear hK K;(try simp only [HT.pS]);refine HT.m 8 hb5 ?_;have HR:=Hi (refuse w5 5 a s n A la cA B lb cB (!callB kn s la));have HB5:=Hi (HBW.out.trans (hb5.mono HBW.out.size));obtain ⟨q,hq⟩:∃ q,callB kn s la=q:=⟨_,rfl⟩;rw [hq] at HR ⊢;have HRES2:=Hi (show (if q=false then some a else none)=res by rw [<-HRES.out,hq];simp);clear HC HN HK HBX hq HRES;cases q with
  | true=>
   refine HT.one (i:=9) V1 rfl (fun K hK=>?_);go_simp;refine (show Calls Tryz.prog 162 #[nzA 5 a s n A la cA B lb cB,.bool false] w5 _ from HR.out).mono ?_;exact V2s
  | false=>
   refine HT.one (i:=9) V1 rfl (fun K hK=>?_);go_simp;refine (show Calls Tryz.prog 162 #[nzA 5 a s n A la cA B lb cB,.bool true] w5 _ from HR.out).mono ?_;exact V32
 have i1:(k==1)=false:=V4;have i5:(k==5)=false:=V4;have HRES2:=Hi (show none=res by rw [<-HRES.out,if_neg];rintro (⟨h,_⟩ | ⟨h,_⟩) <;> omega);clear HN HK HBX hk1 hk5 HRES;go_wp2_with fail
 rw [HWN.out]
 first | go_end0 | skip
 all_goals (rw [<-HRES2.out];first | exact ⟨rfl,HBN.out⟩ | exact bodyPost_ret (results_none rfl _ _ _) rfl ⟨rfl,HBN.out⟩)
theorem exprs(w0 w:World)(g:Nat)(kn:Kn)(G:FuncId)(r:Value)(isN:Bs->Bool)(A:Option Addr)(cA:Nat)(l:List Tz)(css:List (List Value))(hb:Below w0.heap.size w0 w)(hL:Lies w0 A css.flatten)(hS:TsIz w0 l css)(hl:l.length<=maxLen)(hlz:lenzs l)(hk:KnP w g kn)(hI:IsN w G r isN) :
  Calls Tryz.prog 168 #[.pointer (some ⟨g,0,none⟩),.func (.func G) #[r] #[],.slice A l.length cA] w (ExP w (exBs isN (callB kn) l)):=by
 have hlm:l.length<=9223372036854775807:=hl;obtain ⟨wa,hwa,hba,hXa⟩:=alK w #[.pointer (some ⟨g,0,none⟩)] 101;have hsa:wa.heap.size=w.heap.size+1:=by rw [<-hwa];simp
 obtain ⟨wE,hwE,hbE,hXE⟩:=alK wa #[.func (.func G) #[r] #[]] 37;have hbw:Below w.heap.size w wE:=hba.trans (hbE.mono hba.size);rw [hsa] at hXE;have h2:wE.cell? ⟨w.heap.size,0,none⟩=some (.pointer (some ⟨g,0,none⟩)):=(hXa.below hbE hXa.lt).cell 0;have h1:wE.cell? ⟨w.heap.size+1,0,none⟩=some (.func (.func G) #[r] #[]):=hXE.cell 0;have V:∀ lim,Vis w0 191 (.pointer (some ⟨w.heap.size+1,0,none⟩)) (.pointer (some ⟨w.heap.size,0,none⟩)) (exF isN (callB kn)) (fun _ v _=>Below wE.heap.size wE v) (fun _=>0) lim:=by
  intro lim;refine ⟨fun _ _ _ _=>Nat.zero_le _,fun _ _=>V1,fun _ _ _ _ h _=>h,fun _ _ _ _ h h'=>h.trans (h'.mono h.size),fun N v st z k a s n A la cA B lb cB hv hT hz _ hJ=>?_⟩;obtain ⟨k1,a1,s1,n1,ps,l1⟩:=z;obtain ⟨rfl,rfl,rfl,rfl,rfl,rfl,hl1,_⟩:=q18 hT;refine (exprs1 (hk.below hbw) (hI.below hbw) h1 h2 v hJ k a s n A l1.length cA B ps.length cB (q1a hz).1 hl1).mono fun e w' he=>?_
  by_cases h:(k = 1/\isN s=false)\/(k = 5/\callB kn s l1.length=false)
  ·rw [if_pos h] at he;rw [show exF isN (callB kn) (.mk k a s n ps l1) st = .inl a from if_pos h];exact ⟨he.1,Upd.of_below he.2 _⟩
  ·rw [if_neg h] at he;rw [show exF isN (callB kn) (.mk k a s n ps l1) st = .inr () from if_neg h];exact ⟨he.1,hJ.trans (he.2.mono hJ.size),Upd.of_below he.2 _⟩
 have HV:=Hi V;have HL:=Hi hL;have HS:=Hi hS;have HLZ:=Hi hlz;have HWA:=Hi hwa;have HWE:=Hi hwE;have HBW:=Hi hbw;have HB:=Hi hb;obtain ⟨res,hres⟩:∃ res,exBs isN (callB kn) l=res:=⟨_,rfl⟩;rw [hres];have HRES:=Hi hres;have hse:=hXE.lt;clear V hL hS hlz hwa hwE hbw hb h1 h2 hXE hXa hba hbE hk hI hl hres;go_enter Tryz.func168,Tryz.ntmps168;go_wp2_with fail
 rw [HWA.out,HWE.out]
 go_loopw [10] (fun vi wr=>∃ i:Nat,i<=l.length/\vi = .int .i64 (i:Int)/\Hid (Below wE.heap.size wE wr)/\Hid (exBs isN (callB kn) (l.drop i)=res)) (fun vi _=>l.length - (intOf vi).toNat)
 case atStart=>exact ⟨0,V0,rfl,Hi (Below.refl _ _),HRES⟩
 case round=>
  obtain ⟨i,hi,rfl,HH,HQ⟩:=hrel;by_cases hlt:i < l.length
  ·have hil:(i:Int) < (l.length:Int):=by omega
   obtain ⟨y,hy⟩:∃ y,l[i]?=some y:=⟨_,List.getElem?_eq_getElem hlt⟩;have hbr:=HBW.out.trans (HH.out.mono HBW.out.size);have hb0:=HB.out.trans (hbr.mono HB.out.size);obtain ⟨b,o,k',a',s',n',A',la',cA',B',lb',cB',rfl,hTy,hbl,g0,g1,g2,g3,g4,g5⟩:=q3r hb0 HL.out HS.out hy;obtain ⟨wb,hwb,hbb,hXb,hsb⟩:=q05 wr (nB k' a' s' n' A' la' cA' B' lb' cB');have hC:=each (HV.out (0+cntz y)) (SizeOf.sizeOf y+1) y (Nat.lt_succ_self _) (fun _=>False) wb () k' a' s' n' A' la' cA' B' lb' cB' (hb0.trans (hbb.mono hb0.size)) hTy (q1Y HLZ.out hy) (fun _ h=>h.elim) (Nat.le_refl _) (HH.out.trans (hbb.mono HH.out.size));rw [q6i] at hC;have hq:=HQ.out;rw [drop_at hy] at hq
   conv at hq=>lhs;unfold exBs
   obtain ⟨⟨e0,e1,e2,e3,e4,e5⟩,z0,z1,z2,z3,z4,z5⟩:=Blk.c6 hXb;have HC:=Hi hC;have HWB:=Hi hwb;have HQ2:=Hi hq;have HBB:=Hi (hbr.trans (hbb.mono hbr.size));clear hC hwb hbb hXb hq hTy hy hbr hb0;generalize exB isN (callB kn) y=r2 at HC HQ2;go_wp2_with fail
   rw [HWB.out];refine (show Calls Tryz.prog 190 #[nzA k' a' s' n' A' la' cA' B' lb' cB',.func (.func 191) #[] #[.pointer (some ⟨w.heap.size+1,0,none⟩),.pointer (some ⟨w.heap.size,0,none⟩)]] wb _ from HC.out).mono ?_;intro e w4 h4;cases r2 with
   | some a2=>
    obtain ⟨rfl,hu4⟩:=h4;have HEND:=Hi (show Below w.heap.size w w4 from HBB.out.trans ((hu4.below (Nat.le_refl _) fun _ h=>h.elim).mono HBB.out.size));have HQ3:=Hi (show some a2=res from HQ2.out);clear hu4;go_wp2_with fail
    rw [<-HQ3.out];exact ⟨rfl,rfl,HEND.out⟩
   | none=>
    obtain ⟨rfl,hj4,hu4⟩:=h4;have HJ4:=Hi hj4;clear hj4 hu4;go_wp2_with fail
    go_roundw
    case rel=>exact ⟨i+1,V0,V5,HJ4,HQ2⟩
    case measure=>simp [intOf];omega
  ·obtain rfl:i=l.length:=by omega
   have hq:=HQ.out;rw [List.drop_length] at hq
   conv at hq=>lhs;unfold exBs
   have HQ2:=Hi hq;have HEND:=Hi (HBW.out.trans (HH.out.mono HBW.out.size));clear hq;go_wp2_with fail
   first | go_end0 | skip
   all_goals (rw [<-HQ2.out];first | exact ⟨rfl,HEND.out⟩ | exact bodyPost_ret (results_none rfl _ _ _) rfl ⟨rfl,HEND.out⟩)
abbrev In2(N:Nat->Prop)(w wn:World):Nat->Prop:=fun b=>(N b/\b < w.heap.size)\/wn.heap.size<=b
theorem q0c{N:Nat->Prop}{lo:Nat}{w wn:World}{g:Nat}{c:St}{m:Nat}(h:CK N lo w g c m)(hb:Below w.heap.size w wn):CK (In2 N w wn) lo wn g c m:=(h.mono (N':=fun b=>N b/\b < w.heap.size) fun b h1 h2 _=>⟨h1,h2⟩).below hb |>.mono fun b h1 _ _=>.inl h1
theorem q1v{N:Nat->Prop}{lo:Nat}{w wn wr w':World}{g:Nat}{c:St}{m:Nat}(h:CK (New (In2 N w wn) wr) lo w' g c m)(hs:wn.heap.size<=wr.heap.size):CK (In2 N w wn) lo w' g c m:=h.mono fun b h1 _ _=>h1.elim id fun h=>.inr (Nat.le_trans hs h)
theorem q2f{N:Nat->Prop}{lo:Nat}{w wn w':World}{g:Nat}{c:St}{m:Nat}(h:CK (In2 N w wn) lo w' g c m)(hs:w.heap.size<=wn.heap.size):CK (New N w) lo w' g c m:=h.mono fun b h1 _ _=>h1.imp (fun h=>h.1) fun h=>Nat.le_trans hs h
theorem q0i{N:Nat->Prop}{w wn wr w':World}(h:Upd N w wr)(hu:Upd (In2 N w wn) wr w')(hs:w.heap.size<=wn.heap.size):Upd N w w':=q01 h hu fun b hb hlt=>hb.elim (fun h=>h.1) fun h=>V0
theorem q0R{N:Nat->Prop}{w0 w wn:World}(hN:∀ b,N b->w0.heap.size<=b)(hs:w0.heap.size<=wn.heap.size):∀ b,In2 N w wn b->w0.heap.size<=b:=fun b hb=>hb.elim (fun h=>hN b h.1) fun h=>Nat.le_trans hs h
theorem q0S{X:Nat->Prop}{w0 w w':World}(hb:Below w0.heap.size w0 w)(hu:Upd X w w')(hX:∀ b,X b->w0.heap.size<=b):Below w0.heap.size w0 w':=hb.trans (hu.below hb.size hX)
theorem inputs(w0 w:World)(N:Nat->Prop)(lo g:Nat)(c:St)(m:Nat)(k a:Int)(s:Bs)(n:Nat)(A:Option Addr)(la cA:Nat)(B:Option Addr)(cB:Nat)(ps:List Bs)(hb:Below w0.heap.size w0 w)(hB:Lies w0 B (ps.map strV))(hps:ps.length<=maxLen)(hpl:∀ p∈ps,p.length<=maxLen)
  (hN:∀ b,N b->w0.heap.size<=b) (hc:CK N lo w g c m) (hm:m+ps.length<=1099511627776) :
  Calls Tryz.prog 142 #[.pointer (some ⟨g,0,none⟩),nzA k a s n A la cA B ps.length cB] w (StatP N lo w g (inB a ps c) (m+ps.length)):=by
 have hpm:ps.length<=9223372036854775807:=hps;obtain ⟨wn,hwn,hbn,hXn,hsn⟩:=q05 w (nB k a s n A la cA B ps.length cB);obtain ⟨⟨e0,e1,e2,e3,e4,e5⟩,z0,z1,z2,z3,z4,z5⟩:=Blk.c6 hXn;have HC0:=Hi (q0c hc hbn);have HU0:=Hi (Upd.of_below hbn N);have HX0:=Hi hXn;have HW:=Hi hwn;have HB0:=Hi (hb.trans (hbn.mono hb.size));have HB:=Hi hB;have HPL:=Hi hpl;have HM:=Hi hm;have HN:=Hi (q0R (w:=w) hN (Nat.le_trans hb.size hbn.size));have HSN:=Hi hsn;obtain ⟨res,hres⟩:∃ res,inB a ps c=res:=⟨_,rfl⟩;rw [hres];have HRES:=Hi hres;have hgl:=hXn.lt;clear hc hbn hXn hwn hb hB hpl hm hN hps hres hsn;go_enter Tryz.func142,Tryz.ntmps142;go_wp2_with fail
 rw [HW.out]
 go_loopw [9] (fun vi wr=>∃ (i:Nat) (ci:St),i<=ps.length/\vi = .int .i64 (i:Int)/\Hid (CK (In2 N w wn) lo wr g ci (m+i))/\Hid (Upd N w wr)/\Hid (Below w0.heap.size w0 wr)/\Hid (Blk wr w.heap.size 26 (nB k a s n A la cA B ps.length cB))/\Hid (inB a (ps.drop i) ci=res)/\Hid (wn.heap.size<=wr.heap.size)) (fun vi _=>ps.length - (intOf vi).toNat)
 case atStart=>exact ⟨0,c,V0,rfl,HC0,HU0,HB0,HX0,HRES,Hi (Nat.le_refl _)⟩
 case round=>
  obtain ⟨i,ci,hi,rfl,HC,HU,HBE,HX,HQ,HSZ⟩:=hrel;by_cases hlt:i < ps.length
  ·obtain ⟨p,hp⟩:∃ p,ps[i]?=some p:=⟨_,List.getElem?_eq_getElem hlt⟩;have f1:(ps.map strV)[i]?=some (.string ⟨p.toArray⟩):=Vs;obtain ⟨b,o,rfl,_,hc1⟩:=(HB.out.below HBE.out).at_ f1;have g1:=hc1 _ _ f1;have hpp:=HPL.out p (List.mem_of_getElem? hp);have hq:=HQ.out;rw [drop_at hp] at hq;unfold inB at hq;have hdr:Below wr.heap.size wr wr.drew:=Below.drew (Below.refl _ _);obtain ⟨wd,hwd⟩:∃ v,wr.drew=v:=⟨_,rfl⟩;rw [hwd] at hdr;have HXd:=Hi (HX.out.below hdr HX.out.lt);have HCd:=Hi (HC.out.below hdr);have HUd:=Hi (q01 HU.out (Upd.of_below hdr fun _=>False) fun _ h=>h.elim);have HBd:=Hi (HBE.out.trans (hdr.mono HBE.out.size));have hsd:=hdr.size;have hZ0:Below wd.heap.size wd wd:=Below.refl _ _;have HNM:=Hi (isNamed wd g ci.kn HCd.out.knp p hpp);clear hc1 f1 hp HQ hdr;go_wp2_with fail
   clear g1;refine HT.wp_region (Z:=fun w'=>Below wd.heap.size wd w') (S:=fun _=>True) (st:=[]) V1 ?_;rw [hwd];clear hwd;refine HT.k 0 rfl Vi hZ0 ?_;refine HT.k 1 rfl Vi hZ0 ?_;refine HT.k 2 rfl Vi hZ0 ?_;refine HT.one (i:=3) V1 rfl (fun K hK=>?_);go_simp;refine HNM.out.mono ?_;rintro e w5 ⟨rfl,hb5⟩;(try dsimp only);refine hK.out _ _ hb5 trivial ?_;clear hK K;(try simp only [HT.pS]);have HR:=Hi (refuse w5 k a s n A la cA (some ⟨b,o,none⟩) ps.length cB (namedB ci.kn p));obtain ⟨q,hqn⟩:∃ q,namedB ci.kn p=q:=⟨_,rfl⟩;rw [hqn] at HR hq ⊢;have HQ:=Hi hq;clear HNM hqn hq;cases q with
   | true=>
    have HQ2:=Hi (show Rs.bad a=res from HQ.out);refine HT.one (i:=4) V1 rfl (fun K hK=>?_);go_simp;refine (show Calls Tryz.prog 162 #[nzA k a s n A la cA (some ⟨b,o,none⟩) ps.length cB,.bool true] w5 _ from HR.out).mono ?_;rintro e w6 ⟨rfl,hb6⟩;have HEND:=Hi (q01 (q01 HUd.out (Upd.of_below hb5 fun _=>False) fun _ h=>h.elim) (Upd.of_below hb6 fun _=>False) fun _ h=>h.elim);clear hb6;have HEND2:=Hi (show StatP N lo w g res (m+ps.length) (panW a) w6 from by rw [<-HQ2.out];exact ⟨rfl,HEND.out⟩);exact ⟨rfl,HEND2.out⟩
   | false=>
    refine HT.one (i:=4) V1 rfl (fun K hK=>?_);go_simp;refine (show Calls Tryz.prog 162 #[nzA k a s n A la cA (some ⟨b,o,none⟩) ps.length cB,.bool false] w5 _ from HR.out).mono ?_;rintro e w6 ⟨rfl,hb6⟩;have hz6:=hb5.trans (hb6.mono hb5.size);have HC6:=Hi (HCd.out.below hz6);have HX6:=Hi (HXd.out.below hz6 HXd.out.lt);have HU6:=Hi (q01 HUd.out (Upd.of_below hz6 fun _=>False) fun _ h=>h.elim);have HB6:=Hi (HBd.out.trans (hz6.mono HBd.out.size));have hs6:=hz6.size;clear hb6;(try dsimp only);refine hK.out _ _ hz6 trivial ?_;clear hK K;(try simp only [HT.pS]);refine HT.done V1 ?_;clear hb5 hz6 HR;have HNA:=Hi (name_ (In2 N w wn) lo w6 g ci (m+i) HC6.out VC p hpp 0 V2);go_wp2_with fail
    refine (show Calls Tryz.prog 164 #[.pointer (some ⟨g,0,none⟩),.string ⟨p.toArray⟩,.int .i64 0] w6 _ from HNA.out).mono ?_;rintro e w7 ⟨rfl,hc7,hu7⟩;have HC7:=Hi (q1v hc7 (show wn.heap.size<=w6.heap.size by have:=HSZ.out;omega));have HU7:=Hi (q0i HU6.out hu7 V9);have HB7:=Hi (q0S HB6.out hu7 HN.out);have HX7:=Hi (HX6.out.upd hu7 fun h=>by
     exact V1F)
    have HSZ7:=Hi (show wn.heap.size<=w7.heap.size by have:=hu7.size;have:=HSZ.out;omega);have HQ2:Hid (inB a (ps.drop (i+1)) { ci with kn:=ci.kn.put p (0,0),en:=ci.en ++ [p] }=res):=Hi HQ.out;clear hc7 hu7;go_wp2_with fail
    go_roundw
    case rel=>exact ⟨i+1,_,V0,V5,HC7,HU7,HB7,HX7,HQ2,HSZ7⟩
    case measure=>simp [intOf];omega
  ·obtain rfl:i=ps.length:=by omega
   have hq:=HQ.out;rw [List.drop_length] at hq;unfold inB at hq;have HQ2:=Hi hq;have HEND:=Hi (show StatP N lo w g (.ok ci) (m+ps.length) (.returned (.tuple #[])) wr from ⟨rfl,q2f HC.out V9,HU.out⟩);clear hq;go_wp2_with fail
   first | go_end0 | skip
   all_goals (rw [<-HQ2.out];first | exact HEND.out | exact bodyPost_ret (results_none rfl _ _ _) rfl HEND.out)
theorem q2K{q:Prop}{w:World}:∀ (i:Nat) {l:List Tz} {css:List (List Value)},TsIc q w l css->TsIc q w (l.take i) (css.take i)/\TsIc q w (l.drop i) (css.drop i)/\css.flatten.drop (i * 6)=(css.drop i).flatten/\∀ (j:Nat) (u:Value),(css.take i).flatten[j]?=some u->css.flatten[j]?=some u
 | 0,l,css,h=>⟨by simp [TsIc],Vk,V3,fun j u h=>Vc⟩
 | i+1,[],_,h=>by
  unfold TsIc at h;subst h;exact ⟨by simp [TsIc],by simp [TsIc],V3,fun j u h=>Vc⟩
 | i+1,x :: l,_,h=>by
  unfold TsIc at h;obtain ⟨c,r,rfl,h2,h3⟩:=h;obtain ⟨h4,h5,h6,h7⟩:=q2K i h3;have h8:c.length = 6:=V1L;refine ⟨?_,by simpa using h5,?_,fun j u hj=>?_⟩
  ·rw [List.take_succ_cons,List.take_succ_cons];unfold TsIc;exact ⟨c,_,rfl,h2,h4⟩
  ·rw [List.flatten_cons,List.drop_succ_cons,<-h6,show (i+1) * 6=c.length+i * 6 from V0,<-List.drop_drop,List.drop_append_of_le_length (Nat.le_refl _),List.drop_length,List.nil_append]
  ·rw [List.take_succ_cons,List.flatten_cons] at hj;rw [List.flatten_cons];by_cases hjl:j < c.length
   ·rw [List.getElem?_append_left hjl] at hj ⊢;exact hj
   ·rw [List.getElem?_append_right V0] at hj ⊢;exact h7 _ _ hj
theorem lies_take{w:World}{A:Option Addr}{xs ys:List Value}(h:Lies w A xs)(hy:∀ (j:Nat) (u:Value),ys[j]?=some u->xs[j]?=some u):Lies w A ys:=fun j u hj=>h j u (hy j u hj)
theorem q2L{w0 w:World}{A:Option Addr}{l:List Tz}{css:List (List Value)}{k:Nat}{e:Ending}{w':World}(h:CutP w A l.length k e w')(hL:Lies w0 A css.flatten)(hS:TsIz w0 l css) :
  ∃ A1 c1 A2 c2 css1 css2,e = .returned (.tuple #[.slice A1 (l.take k).length c1,.slice A2 (l.drop k).length c2])/\Lies w0 A1 css1.flatten/\TsIz w0 (l.take k) css1/\Lies w0 A2 css2.flatten/\TsIz w0 (l.drop k) css2/\Below w.heap.size w w':=by
 obtain ⟨A1,c1,A2,c2,rfl,h1,h2,hb⟩:=h;obtain ⟨h4,h5,h6,h7⟩:=q2K k hS;refine ⟨A1,c1,A2,c2,css.take k,css.drop k,by rw [List.length_take,List.length_drop],lies_take (h1 w0 _ hL) h7,h4,?_,h5,hb⟩;by_cases hlt:0 < l.length - k
 ·rw [<-h6];exact h2 hlt w0 _ hL
 ·exact V3y
theorem lenzs_take:∀ (i:Nat) {l:List Tz},lenzs l->lenzs (l.take i)/\lenzs (l.drop i)
 | 0,l,h=>⟨V05,Vk⟩
 | i+1,[],h=>⟨V05,V05⟩
 | i+1,x :: l,h=>by
  unfold lenzs at h;have:=lenzs_take i h.2;refine ⟨?_,by simpa using this.2⟩;rw [List.take_succ_cons];unfold lenzs;exact ⟨h.1,this.1⟩
theorem q3w{w:World}{g:Nat}{kn:Kn}(h:KnP w g kn):IsN w 170 (.pointer (some ⟨g,0,none⟩)) (wordB kn):=
 ⟨fun _ _=>V1,fun v hv s hs=>isWord v g kn (h.below hv) s hs⟩
def letB(a:Int)(s:Bs)(l:List Tz)(c:St):Rs:=
 exR (exBs (wordB c.kn) (callB c.kn) (l.take 1)) (if isB c.kn s [0,1,3]=true then .bad a else if isB c.kn s [2]=true then .ok c else .ok { c with kn:=c.kn.put s (2,0),en:=c.en ++ [s] })
theorem let_(w0 w:World)(N:Nat->Prop)(lo g:Nat)(c:St)(m:Nat)(k a:Int)(s:Bs)(n:Nat)(A:Option Addr)(cA:Nat)(B:Option Addr)(lb cB:Nat)(l:List Tz)(css:List (List Value))(hb:Below w0.heap.size w0 w)(hL:Lies w0 A css.flatten)(hS:TsIz w0 l css)(hlc:l.length<=cA/\cA<=maxLen)
  (hs:s.length<=maxLen) (hlz:lenzs l) (hN:∀ b,N b->w0.heap.size<=b) (hc:CK N lo w g c m) (hm:m+1<=1099511627776) :
  Calls Tryz.prog 144 #[.pointer (some ⟨g,0,none⟩),nzA k a s n A l.length cA B lb cB] w (StatP N lo w g (letB a s l c) (m+1)):=by
 obtain ⟨wn,hwn,hbn,hXn,hsn⟩:=q05 w (nB k a s n A l.length cA B lb cB);obtain ⟨⟨e0,e1,e2,e3,e4,e5⟩,z0,z1,z2,z3,z4,z5⟩:=Blk.c6 hXn;have HCU:=Hi (cut_ wn A l.length cA 1 hlc.1 hlc.2 V2);have HC0:=Hi (q0c hc hbn);have HU0:=Hi (Upd.of_below hbn N);have HX0:=Hi hXn;have HW:=Hi hwn;have HB0:=Hi (hb.trans (hbn.mono hb.size));have HL:=Hi hL;have HS:=Hi hS;have HLZ:=Hi hlz;have HM:=Hi hm;have HN:=Hi (q0R (w:=w) hN (Nat.le_trans hb.size hbn.size));have HSN:=Hi hsn;have hlm:l.length<=maxLen:=Nat.le_trans hlc.1 hlc.2;obtain ⟨res,hres⟩:∃ res,letB a s l c=res:=⟨_,rfl⟩;rw [hres];have HRES:=Hi hres;have hgl:=hXn.lt;clear hc hbn hXn hwn hb hL hS hlz hm hN hlc hres hsn;go_enter Tryz.func144,Tryz.ntmps144;go_wp2_with fail
 rw [HW.out];refine (show Calls Tryz.prog 167 #[.slice A l.length cA,.int .i64 1] wn _ from HCU.out).mono ?_;intro e w1 hcp;obtain ⟨A1,c1,A2,c2,css1,css2,rfl,hL1,hS1,_,_,hb1⟩:=q2L hcp HL.out HS.out;have HX1:=Hi (HX0.out.below hb1 HX0.out.lt);have HC1:=Hi (HC0.out.below hb1);have HU1:=Hi (q01 HU0.out (Upd.of_below hb1 fun _=>False) fun _ h=>h.elim);have HB1:=Hi (HB0.out.trans (hb1.mono HB0.out.size));have hs1:=hb1.size;have HEX:=Hi (exprs w0 w1 g c.kn _ _ _ A1 c1 (l.take 1) css1 HB1.out hL1 hS1 (Nat.le_trans VV hlm) (lenzs_take 1 HLZ.out).1 HC1.out.knp (q3w HC1.out.knp));clear hcp hL1 hS1 hb1 HCU e0 e1 e2 e3 e4 e5 z0 z1 z2 z3 z4 z5;obtain ⟨⟨e0,e1,e2,e3,e4,e5⟩,z0,z1,z2,z3,z4,z5⟩:=Blk.c6 HX1.out;unfold letB at HRES;generalize exBs (wordB c.kn) (callB c.kn) (l.take 1)=r1 at HEX HRES;generalize (l.take 1).length=n1 at HEX;generalize (l.drop 1).length=n2;go_wp2_with fail
 refine (show Calls Tryz.prog 168 #[.pointer (some ⟨g,0,none⟩),.func (.func 170) #[.pointer (some ⟨g,0,none⟩)] #[],.slice A1 n1 c1] w1 _ from HEX.out).mono ?_;intro e w2 h2;cases r1 with
 | some a1=>
  exact V1h
 | none=>
 obtain ⟨rfl,hb2⟩:=h2;have HX2:=Hi (HX1.out.below hb2 HX1.out.lt);have HC2:=Hi (HC1.out.below hb2);have HU2:=Hi (q01 HU1.out (Upd.of_below hb2 fun _=>False) fun _ h=>h.elim);have HB2:=Hi (HB1.out.trans (hb2.mono HB1.out.size));have hs2:=hb2.size;have hdr:Below w2.heap.size w2 w2.drew:=Below.drew (Below.refl _ _);obtain ⟨wd,hwd⟩:∃ v,w2.drew=v:=⟨_,rfl⟩;rw [hwd] at hdr;have HXd:=Hi (HX2.out.below hdr HX2.out.lt);have HCd:=Hi (HC2.out.below hdr);have HUd:=Hi (q01 HU2.out (Upd.of_below hdr fun _=>False) fun _ h=>h.elim);have HBd:=Hi (HB2.out.trans (hdr.mono HB2.out.size));have hsd:=hdr.size;have hZ0:Below wd.heap.size wd wd:=Below.refl _ _;obtain ⟨w4,hw4,hb4,hL4⟩:=q19 wd [0,1,3];have HW4:=Hi hw4;have HIS:=Hi (is_ w4 g c.kn (HCd.out.knp.below hb4) s hs _ 3 [0,1,3] hL4 V2);clear hb2 hdr hw4 hL4 e0 e1 e2 e3 e4 e5 z0 z1 z2 z3 z4 z5;go_wp2_with fail
 refine HT.wp_region (Z:=fun w'=>Below wd.heap.size wd w') (S:=fun _=>True) (st:=[]) V1 ?_;rw [hwd];clear hwd;refine HT.k 0 rfl Vi hZ0 ?_;refine HT.k 1 rfl Vi hZ0 ?_;refine HT.k 2 rfl Vi hZ0 ?_;refine HT.k 3 rfl Vi hZ0 ?_;refine HT.one (i:=4) V1 rfl (fun K hK=>?_);go_simp;rw [show wd.alloc (.cells #[.int .i64 0,.int .i64 1,.int .i64 3] 102)=w4 from HW4.out];(try dsimp only);refine hK.out _ _ hb4 trivial ?_;clear hK K;(try simp only [HT.pS]);refine HT.one (i:=5) V1 rfl (fun K hK=>?_);go_simp;refine (show Calls Tryz.prog 165 #[.pointer (some ⟨g,0,none⟩),.string ⟨s.toArray⟩,.slice (some ⟨wd.heap.size,0,none⟩) 3 3] w4 _ from HIS.out).mono ?_;rintro e w5 ⟨rfl,hb5⟩;have hz5:=hb4.trans (hb5.mono hb4.size);(try dsimp only);refine hK.out _ _ hz5 trivial ?_;clear hK K;(try simp only [HT.pS]);have HR:=Hi (refuse w5 k a s n A l.length cA B lb cB (isB c.kn s [0,1,3]));obtain ⟨q,hq⟩:∃ q,isB c.kn s [0,1,3]=q:=⟨_,rfl⟩;rw [hq] at HR HRES ⊢;clear HIS hq HW4;cases q with
 | true=>
  have HQ2:=Hi (show Rs.bad a=res from HRES.out);refine HT.one (i:=6) V1 rfl (fun K hK=>?_);go_simp;refine (show Calls Tryz.prog 162 #[nzA k a s n A l.length cA B lb cB,.bool true] w5 _ from HR.out).mono ?_;rintro e w6 ⟨rfl,hb6⟩;have HEND:=Hi (show StatP N lo w g res (m+1) (panW a) w6 from by rw [<-HQ2.out];exact ⟨rfl,q01 (q01 HUd.out (Upd.of_below hz5 fun _=>False) fun _ h=>h.elim) (Upd.of_below hb6 fun _=>False) fun _ h=>h.elim⟩);clear hb6;exact Vh
 | false=>
  refine HT.one (i:=6) V1 rfl (fun K hK=>?_);go_simp;refine (show Calls Tryz.prog 162 #[nzA k a s n A l.length cA B lb cB,.bool false] w5 _ from HR.out).mono ?_;rintro e w6 ⟨rfl,hb6⟩;have hz6:=hz5.trans (hb6.mono hz5.size);have HX6:=Hi (HXd.out.below hz6 HXd.out.lt);have HC6:=Hi (HCd.out.below hz6);have HU6:=Hi (q01 HUd.out (Upd.of_below hz6 fun _=>False) fun _ h=>h.elim);have HB6:=Hi (HBd.out.trans (hz6.mono HBd.out.size));have hs6:=hz6.size;clear hb6;(try dsimp only);refine hK.out _ _ hz6 trivial ?_;clear hK K;(try simp only [HT.pS]);refine HT.done V1 ?_;clear hb5 hz6 HR hz5 hb4 hZ0;obtain ⟨w7,hw7,hb7,hL7⟩:=q19 w6 [2];have HW7:=Hi hw7;have HX7:=Hi (HX6.out.below hb7 HX6.out.lt);have HC7:=Hi (HC6.out.below hb7);have HU7:=Hi (q01 HU6.out (Upd.of_below hb7 fun _=>False) fun _ h=>h.elim);have HB7:=Hi (HB6.out.trans (hb7.mono HB6.out.size));have hs7:=hb7.size;have HIS:=Hi (is_ w7 g c.kn HC7.out.knp s hs _ 1 [2] hL7 V2);clear hw7 hb7 hL7;obtain ⟨⟨e0,e1,e2,e3,e4,e5⟩,z0,z1,z2,z3,z4,z5⟩:=Blk.c6 HX6.out;go_wp2_with fail
  rw [show w6.alloc (.cells #[.int .i64 2] 102)=w7 from HW7.out];refine (show Calls Tryz.prog 165 #[.pointer (some ⟨g,0,none⟩),.string ⟨s.toArray⟩,.slice (some ⟨w6.heap.size,0,none⟩) 1 1] w7 _ from HIS.out).mono ?_;rintro e w8 ⟨rfl,hb8⟩;have HX8:=Hi (HX7.out.below hb8 HX7.out.lt);have HC8:=Hi (HC7.out.below hb8);have HU8:=Hi (q01 HU7.out (Upd.of_below hb8 fun _=>False) fun _ h=>h.elim);have HB8:=Hi (HB7.out.trans (hb8.mono HB7.out.size));have hs8:=hb8.size;clear hb8 HIS e0 e1 e2 e3 e4 e5 z0 z1 z2 z3 z4 z5;obtain ⟨⟨e0,e1,e2,e3,e4,e5⟩,z0,z1,z2,z3,z4,z5⟩:=Blk.c6 HX8.out;obtain ⟨q,hq⟩:∃ q,isB c.kn s [2]=q:=⟨_,rfl⟩;rw [hq] at HRES ⊢;clear hq;cases q with
  | true=>
   have HQ2:=Hi (show Rs.ok c=res from HRES.out);have HEND:=Hi (show StatP N lo w g res (m+1) (.returned (.tuple #[])) w8 from by rw [<-HQ2.out];exact ⟨rfl,(q2f HC8.out V9).more (Nat.le_succ _),HU8.out⟩);exact Vd
  | false=>
   have HQ2:=Hi (show Rs.ok { c with kn:=c.kn.put s (2,0),en:=c.en ++ [s] }=res from HRES.out);have HNA:=Hi (name_ (In2 N w wn) lo w8 g c m HC8.out HM.out s hs 2 V2);go_wp2_with fail
   refine (show Calls Tryz.prog 164 #[.pointer (some ⟨g,0,none⟩),.string ⟨s.toArray⟩,.int .i64 2] w8 _ from HNA.out).mono ?_;rintro e w9 ⟨rfl,hc9,hu9⟩;have HEND:=Hi (show StatP N lo w g res (m+1) (.returned (.tuple #[])) w9 from by rw [<-HQ2.out];exact ⟨rfl,q2f (q1v hc9 V0) V9,q0i HU8.out hu9 V9⟩);clear hc9 hu9;exact Vd
theorem q6j(ou:List (Bs×Bool))(s:Bs)(b:Bool):(fun t=>outF ou t || t==s)=outF (ou ++ [(s,b)]):=by
 funext t
 unfold outF;rw [List.map_append];by_cases h:t=s
 ·subst h;simp
 ·have h':(t==s)=false:=by simpa using h
  rw [h',Bool.or_false,List.contains_eq_mem,List.contains_eq_mem];simp [h]
theorem q0l{w:World}{lo:Nat}{e:TypeId}{size n:Nat}{v:Value}{xs:List Value}(h:w.ownsRow lo e size v n xs):∃ A c,v = .slice A n c:=by
 rcases h.2 with ⟨h,h0⟩ | ⟨g,cap,cur,h,_⟩
 ·exact ⟨none,0,by rw [h,h0]⟩
 ·exact ⟨_,cap,h⟩
theorem q2M{N:Nat->Prop}{w wn:World}{b:Nat}(h:In2 N w wn b)(hs:wn.heap.size=w.heap.size+1):w.heap.size≠b:=by
 rcases h with h | h
 ·have:=h.2;omega
 ·omega
def outB(k a:Int)(s:Bs)(l:List Tz)(c:St):Rs:=
 exR (exBs (wordB c.kn) (callB c.kn) (l.take 1)) (if outF c.ou s=true then .bad a else .ok { c with ou:=c.ou ++ [(s,decide (k = 9))] })
theorem output(w0 w:World)(N:Nat->Prop)(lo g:Nat)(c:St)(m:Nat)(k a:Int)(s:Bs)(n:Nat)(A:Option Addr)(cA:Nat)(B:Option Addr)(lb cB:Nat)(l:List Tz)(css:List (List Value))(hb:Below w0.heap.size w0 w)(hL:Lies w0 A css.flatten)(hS:TsIz w0 l css)(hlc:l.length<=cA/\cA<=maxLen)
  (hs:s.length<=maxLen) (hlz:lenzs l) (hN:∀ b,N b->w0.heap.size<=b) (hc:CK N lo w g c m) (hm:m+1<=1099511627776) :
  Calls Tryz.prog 145 #[.pointer (some ⟨g,0,none⟩),nzA k a s n A l.length cA B lb cB] w (StatP N lo w g (outB k a s l c) (m+1)):=by
 obtain ⟨i0,hi,hz⟩:=Option.map_eq_some_iff.1 infoL;have hz0:=congrArg (·.1) hz;have hz1:=congrArg (·.2.1) hz;have hz2:=congrArg (·.2.2) hz;have HI:=Hi hi;have HZ0:=Hi hz0;have HZ1:=Hi hz1;have HZ2:=Hi hz2;clear hi hz hz0 hz1 hz2;obtain ⟨wn,hwn,hbn,hXn,hsn⟩:=q05 w (nB k a s n A l.length cA B lb cB);obtain ⟨⟨e0,e1,e2,e3,e4,e5⟩,z0,z1,z2,z3,z4,z5⟩:=Blk.c6 hXn;have HCU:=Hi (cut_ wn A l.length cA 1 hlc.1 hlc.2 V2);have HC0:=Hi (q0c hc hbn);have HU0:=Hi (Upd.of_below hbn N);have HX0:=Hi hXn;have HW:=Hi hwn;have HB0:=Hi (hb.trans (hbn.mono hb.size));have HL:=Hi hL;have HS:=Hi hS;have HLZ:=Hi hlz;have HM:=Hi hm;have HN:=Hi (q0R (w:=w) hN (Nat.le_trans hb.size hbn.size));have HSN:=Hi hsn;have hlm:l.length<=maxLen:=Nat.le_trans hlc.1 hlc.2;obtain ⟨res,hres⟩:∃ res,outB k a s l c=res:=⟨_,rfl⟩;rw [hres];have HRES:=Hi hres;have hgl:=hXn.lt;clear hc hbn hXn hwn hb hL hS hlz hm hN hlc hres hsn;go_enter Tryz.func145,Tryz.ntmps145;go_wp2_with fail
 rw [HW.out];refine (show Calls Tryz.prog 167 #[.slice A l.length cA,.int .i64 1] wn _ from HCU.out).mono ?_;intro e w1 hcp;obtain ⟨A1,c1,A2,c2,css1,css2,rfl,hL1,hS1,_,_,hb1⟩:=q2L hcp HL.out HS.out;have HX1:=Hi (HX0.out.below hb1 HX0.out.lt);have HC1:=Hi (HC0.out.below hb1);have HU1:=Hi (q01 HU0.out (Upd.of_below hb1 fun _=>False) fun _ h=>h.elim);have HB1:=Hi (HB0.out.trans (hb1.mono HB0.out.size));have hs1:=hb1.size;have HEX:=Hi (exprs w0 w1 g c.kn _ _ _ A1 c1 (l.take 1) css1 HB1.out hL1 hS1 (Nat.le_trans VV hlm) (lenzs_take 1 HLZ.out).1 HC1.out.knp (q3w HC1.out.knp));clear hcp hL1 hS1 hb1 HCU e0 e1 e2 e3 e4 e5 z0 z1 z2 z3 z4 z5;obtain ⟨⟨e0,e1,e2,e3,e4,e5⟩,z0,z1,z2,z3,z4,z5⟩:=Blk.c6 HX1.out;unfold outB at HRES;generalize exBs (wordB c.kn) (callB c.kn) (l.take 1)=r1 at HEX HRES;generalize (l.take 1).length=n1 at HEX;generalize (l.drop 1).length=n2;go_wp2_with fail
 refine (show Calls Tryz.prog 168 #[.pointer (some ⟨g,0,none⟩),.func (.func 170) #[.pointer (some ⟨g,0,none⟩)] #[],.slice A1 n1 c1] w1 _ from HEX.out).mono ?_;intro e w2 h2;cases r1 with
 | some a1=>
  exact V1h
 | none=>
 obtain ⟨rfl,hb2⟩:=h2;have HX2:=Hi (HX1.out.below hb2 HX1.out.lt);have HC2:=Hi (HC1.out.below hb2);have HU2:=Hi (q01 HU1.out (Upd.of_below hb2 fun _=>False) fun _ h=>h.elim);have HB2:=Hi (HB1.out.trans (hb2.mono HB1.out.size));have hs2:=hb2.size;have hdr:Below w2.heap.size w2 w2.drew:=Below.drew (Below.refl _ _);obtain ⟨wd,hwd⟩:∃ v,w2.drew=v:=⟨_,rfl⟩;rw [hwd] at hdr;have HXd:=Hi (HX2.out.below hdr HX2.out.lt);have HUd:=Hi (q01 HU2.out (Upd.of_below hdr fun _=>False) fun _ h=>h.elim);have HBd:=Hi (HB2.out.trans (hdr.mono HB2.out.size));obtain ⟨⟨vs,vp,vo,ve,kb,ob,hv⟩,hbd⟩:=HC2.out.below hdr;have HENL:=Hi HC2.out.enl;have hsd:=hdr.size;have hZ0:Upd (fun b=>b=ob) wd wd:=Upd.refl _ _;have HNO:=Hi (q2M (hv.inN _ V3 ob rfl) HSN.out);have HGO:=Hi hv.ne.1.2.1;have HAD:=Hi (add_ wd ob m _ hv.ms (q69 HM.out) s hs);have HVd:=Hi hv;have HBDD:=Hi hbd;obtain ⟨q,hq⟩:∃ q,outF c.ou s=q:=⟨_,rfl⟩;unfold AddP at HAD;rw [hq] at HAD HRES;clear hb2 hdr hv hbd hq e0 e1 e2 e3 e4 e5 z0 z1 z2 z3 z4 z5;go_wp2_with fail
 refine HT.wp_region (Z:=fun w'=>Upd (fun b=>b=ob) wd w') (S:=fun _=>True) (st:=[]) V1 ?_;rw [hwd];clear hwd;refine HT.k 0 rfl VH hZ0 ?_;refine HT.k 1 rfl VH hZ0 ?_;refine HT.k 2 rfl VH hZ0 ?_;refine HT.k 3 rfl VH hZ0 ?_;refine HT.k 4 rfl VH hZ0 ?_;refine HT.k 5 rfl VH hZ0 ?_;refine HT.k 6 rfl VH hZ0 ?_;refine HT.one (i:=7) V1 rfl (fun K hK=>?_);go_simp;refine (show Calls Tryz.prog 166 #[.map (some ob),.string ⟨s.toArray⟩] wd _ from HAD.out).mono ?_;rintro e w5 ⟨rfl,hms5,hu5⟩;(try dsimp only);refine hK.out _ _ hu5 trivial ?_;clear hK K;(try simp only [HT.pS]);have HMS5:=Hi hms5;clear hms5 HAD;cases q with
 | true=>
  have HQ2:=Hi (show Rs.bad a=res from HRES.out);have HR:=Hi (refuse w5 k a s n A l.length cA B lb cB true);refine HT.m 8 hu5 ?_;refine HT.one (i:=9) V1 rfl (fun K hK=>?_);go_simp;refine (show Calls Tryz.prog 162 #[nzA k a s n A l.length cA B lb cB,.bool true] w5 _ from HR.out).mono ?_;rintro e w6 ⟨rfl,hb6⟩;have HEND:=Hi (show StatP N lo w g res (m+1) (panW a) w6 from by
   rw [<-HQ2.out];exact ⟨rfl,q01 (q0i HUd.out (hu5.mono fun b hb=>hb ▸ HVd.out.inN _ V3 ob rfl) V9) (Upd.of_below hb6 fun _=>False) fun _ h=>h.elim⟩)
  clear hb6;exact Vh
 | false=>
  have HR:=Hi (refuse w5 k a s n A l.length cA B lb cB false);refine HT.m 8 hu5 ?_;refine HT.one (i:=9) V1 rfl (fun K hK=>?_);go_simp;refine (show Calls Tryz.prog 162 #[nzA k a s n A l.length cA B lb cB,.bool false] w5 _ from HR.out).mono ?_;rintro e w6 ⟨rfl,hb6⟩;have hz6:Upd (fun b=>b=ob) wd w6:=q01 hu5 (Upd.of_below hb6 fun _=>False) fun _ h=>h.elim
  (try dsimp only);refine hK.out _ _ hz6 trivial ?_;clear hK K;(try simp only [HT.pS]);refine HT.done V1 ?_;have hdr:Below w6.heap.size w6 w6.drew:=Below.drew (Below.refl _ _);obtain ⟨wz,hwd⟩:∃ v,w6.drew=v:=⟨_,rfl⟩;rw [hwd] at hdr;have hu:Upd (fun b=>b=ob) wd wz:=q01 hz6 (Upd.of_below hdr fun _=>False) fun _ h=>h.elim
  have hbz:Below w5.heap.size w5 wz:=hb6.trans (hdr.mono hb6.size);have HVz:=Hi (HVd.out.ob' hu (HMS5.out.upd (Upd.of_below hbz fun _=>False) id) (Nat.le_succ m));have HXz:=Hi (HXd.out.upd hu HNO.out);have HUz:=Hi (q0i HUd.out (hu.mono fun b hb=>hb ▸ HVd.out.inN _ V3 ob rfl) (show w.heap.size<=wn.heap.size from V9));have hsz:=hu.size;have HQ2:=Hi (show Rs.ok { c with ou:=c.ou ++ [(s,decide (k = 9))] }=res from HRES.out);have HNV:=Hi (show ¬ (vo.ownBlock=some w.heap.size\/w.heap.size=g) from fun h=>by
   rcases h with h | h
   ·exact q2M (HVd.out.inN _ V3 _ h) HSN.out rfl
   ·exact q2M (HVd.out.inN _ V3 g rfl) HSN.out h)
  have HGV:=Hi HVd.out.ne.1.2.2.2.2.1;clear hb6 hz6 hu hdr hbz HR hu5 hZ0 HRES HMS5 HX2 HC2 HU2 HB2 HX1 HC1 HU1 HB1 HX0 HC0 HU0 HB0;have hZ0:Upd (fun b=>vo.ownBlock=some b\/b=g) wz wz:=Upd.refl _ _;have hS0:Upd (fun b=>vo.ownBlock=some b) wz wz:=Upd.refl _ _;obtain ⟨w4,hw4,hb4,-⟩:=alK wz #[.string ⟨s.toArray⟩,.bool false,.bool (k==9)] 36;have hL4:Lies w4 (some ⟨wz.heap.size,0,none⟩) (laC (s,k==9)):=by rw [<-hw4];exact q07 _ _ _
  have ho4:w4.ownsRow lo 36 3 vo c.ou.length (c.ou.flatMap laC):=own_updV HVz.out.oo (Upd.of_below hb4 fun _=>False) fun _ _ h=>h
  have hlo4:lo<=w4.heap.size:=Nat.le_trans HVz.out.lo_.2.2.2 hb4.size;have hou:c.ou.length+1<=1099511627776:=by have:=HBDD.out;have:=HM.out;omega
  have hz4:Upd (fun b=>vo.ownBlock=some b\/b=g) wz w4:=Upd.of_below hb4 _;have hs4:Upd (fun b=>vo.ownBlock=some b) wz w4:=Upd.of_below hb4 _;go_wp2_with fail
  refine HT.wp_region (Z:=fun w'=>Upd (fun b=>vo.ownBlock=some b\/b=g) wz w') (S:=fun w'=>Upd (fun b=>vo.ownBlock=some b) wz w') (st:=[17]) V1 ?_;rw [hwd];clear hwd;refine HT.tm 0 rfl hZ0 (fun _=>hS0) ?_;refine HT.tm 1 rfl hZ0 (fun _=>hS0) ?_;refine HT.tm 2 rfl hZ0 (fun _=>hS0) ?_;refine HT.tm 3 rfl hZ0 (fun _=>hS0) ?_;refine HT.tm 4 rfl hZ0 (fun _=>hS0) ?_;refine HT.ts 5 rfl V1u hZ0 hS0 ?_;refine HT.tk 6 rfl Vp hZ0 (fun _=>hS0) ?_;refine HT.tk 7 rfl Vp hZ0 (fun _=>hS0) ?_;refine HT.tk 8 rfl Vp hZ0 (fun _=>hS0) ?_;refine HT.tk 9 rfl Vp hZ0 (fun _=>hS0) ?_;refine HT.tk 10 rfl Vp hZ0 (fun _=>hS0) ?_;refine HT.tk 11 rfl Vp hZ0 (fun _=>hS0) ?_;refine HT.one (i:=12) V1 rfl (fun K hK=>?_);go_simp;(try rw [hw4]);(try dsimp only);refine hK.out _ _ hz4 hs4 ?_;clear hK K;(try simp only [HT.pS]);refine HT.one (i:=13) V1 rfl (fun K hK=>?_);refine q0x rfl _ _ 31 rfl lo 36 i0 (.agg #[.string ⟨#[]⟩,.bool false,.bool false]) 3 24 Tryz.underlying31 HI.out HZ0.out HZ1.out HZ2.out rfl V2 vo c.ou.length _ rfl ho4 (some ⟨wz.heap.size,0,none⟩) 1 1 (laC (s,k==9)) rfl rfl hL4 (by simp [laC,Value.oneCell']) V8 V0 hlo4 ?_;intro v' w8 hown hgrow hat;obtain ⟨vA,vc,rfl⟩:=q0l hown;have hs8:Upd (fun b=>vo.ownBlock=some b) wz w8:=hs4.grown hgrow fun b hb _=>hb
  have hz8:Upd (fun b=>vo.ownBlock=some b\/b=g) wz w8:=hs8.mono fun b hb=>.inl hb
  (try dsimp only);refine hK.out _ _ hz8 hs8 ?_;clear hK K;(try simp only [HT.pS]);refine HT.tm 14 rfl hz8 (fun _=>hs8) ?_;refine HT.tm 15 rfl hz8 (fun _=>hs8) ?_;refine HT.tm 16 rfl hz8 (fun _=>hs8) ?_;have hG8:=HVz.out.blk.upd hs8 HGV.out;obtain ⟨⟨c0,c1,c2,c3,c4,c5⟩,y0,y1,y2,y3,y4,y5⟩:=Blk.c6 hG8;have hg8:=hG8.lt;refine HT.oneS (i:=17) V1 V1 rfl (fun K hK=>?_);go_simp;refine hK.out _ _ (hz8.setCell (p:=⟨g,2,none⟩) (fun _=>.inr rfl) _) ?_;clear hK K;(try simp only [HT.pS]);refine HT.done V1 ?_;have hown':w8.ownsRow lo 36 3 (.slice vA (c.ou.length+1) vc) (c.ou ++ [(s,decide (k = 9))]).length ((c.ou ++ [(s,decide (k = 9))]).flatMap laC):=by
   rw [List.length_append,List.flatMap_append];exact hown
  have hat':(Value.slice vA (c.ou.length+1) vc).ownBlock=vo.ownBlock\/∃ n,wz.heap.size<=n/\(Value.slice vA (c.ou.length+1) vc).ownBlock=some n:=hat.imp id fun h=>⟨_,hb4.size,h⟩
  have hfin:=HVz.out.vo' hs8 hown' hat';rw [q6j c.ou s (decide (k = 9))] at hfin;have HEND:=Hi (show StatP N lo w g res (m+1) (.returned (.tuple #[])) (w8.setCell ⟨g,2,none⟩ (.slice vA (c.ou.length+1) vc)) from by
   rw [<-HQ2.out];have hb:=HBDD.out;refine ⟨rfl,⟨⟨vs,vp,_,ve,kb,ob,hfin.mono fun b hb _ _=>?_⟩,⟨Nat.le_succ_of_le hb.1,Nat.le_succ_of_le hb.2.1,by show (c.ou ++ [_]).length<=m+1;simp;omega,Nat.le_succ_of_le hb.2.2.2⟩,HENL.out⟩,?_⟩
   ·exact V1r
   ·refine q0i HUz.out ((hs8.mono (Y:=In2 N w wn) fun b hb=>HVz.out.inN _ V3 b hb).setCell (p:=⟨g,2,none⟩) (fun _=>HVz.out.inN _ V3 g rfl) _) V9)
  clear hown hown' hat hat' hfin hgrow hs8 hz8 hG8 hz4 hs4 hw4 hb4 hL4 ho4 c0 c1 c2 c3 c4 c5 y0 y1 y2 y3 y4 y5 hg8 hZ0 hS0;exact Vd
end Nm
end Go.Proofs.YtcgibpdjfgjldaaGreatDoor
