/- DERIVED. FlLaw, FlLaw2, FlCh, FlPg, FlLv, FlWk, FlLaw3, FlWn, NmNd, NmTb. By an AI agent. -/
import Derived.Test.YtcgibpdjfgjldaaGreatDoorR40
import Derived.Test.YtcgibpdjfgjldaaGreatDoorR32
import Derived.LaidMore
import Derived.LaidLaws
import Derived.MakeChecks
import Derived.Stop.Joined
import Derived.Lay
set_option maxRecDepth 100000
set_option maxHeartbeats 4000000
set_option linter.unusedVariables false
set_option linter.unusedSimpArgs false
namespace Go.Proofs.YtcgibpdjfgjldaaGreatDoor
namespace Fl
open Go Go.ChangeShapes Go.WideShapes Go.ChangeAt Go.RowKit Lx Args Pa Sh Go.Proofs.YtcgibpdjfgjldaaGreatDoor.Nm
def fkB(num:Num)(M:Int)(D R:Nat)(z:Tz):Rf Sf:=match ckB z with | .bad a=>.bad a 120 | .ok _=>flB num M D R z
def FkP(w:World)(r:Rf Sf)(e:Ending)(w':World):Prop:=
 match r with
 | .bad a er=>er≠0/\(∃ A c,e = .returned (.tuple #[.slice A 0 c,.int .i64 a,.int .i64 (er:Int)]))/\Below w.heap.size w w'
 | .ok c=>c.ou.length<=maxLen/\(∃ A k,e = .returned (.tuple #[.slice A c.ou.length k,.int .i64 0,.int .i64 0])/\Af w' A (c.ou.flatMap lbC))/\Below w.heap.size w w'
theorem q8k:∀ {l:List (Bs×Bool×Bool)} {i:Nat} {x:Bs×Bool×Bool},l[i]?=some x->∀ j,j < 3->(l.flatMap lbC)[i * 3+j]?=(lbC x)[j]?
 | [],i,x,h,j,hj=>Vc
 | y :: l,0,x,h,j,hj=>by
  exact V3j
 | y :: l,i+1,x,h,j,hj=>by
  rw [List.flatMap_cons,List.getElem?_append_right (by show 3<=_;omega),<-q8k (l:=l) (i:=i) (x:=x) Va j hj]
  congr 1
  show (i+1) * 3+j - 3=i * 3+j;omega
theorem q5t{w:World}{A:Option Addr}{l:List (Bs×Bool×Bool)}(hL:Af w A (l.flatMap lbC)){i:Nat}{x:Bs×Bool×Bool}(h:l[i]?=some x) :
  ∃ b o,A=some ⟨b,o,none⟩/\b < w.heap.size/\w.cell? ⟨b,o+i * 3,none⟩=some (.string ⟨x.1.toArray⟩)/\w.cell? ⟨b,o+i * 3+1,none⟩=some (.bool x.2.1)/\w.cell? ⟨b,o+i * 3+2,none⟩=some (.bool x.2.2):=by
 have g0:=q8k h 0 V0;have g1:=q8k h 1 V0;have g2:=q8k h 2 V0;obtain ⟨b,o,rfl,hb,hc⟩:=hL.at_ (j:=i * 3+0) (g0.trans rfl);refine ⟨b,o,rfl,hb,hc _ _ (g0.trans rfl),?_,?_⟩
 ·exact V1W
 ·exact V1V
theorem nbz_op(z:Tz):nbz (opz z)<=nbz z:=by
 obtain ⟨k,a,s,n,ps,l⟩:=z;have h:∀ l:List Tz,au (l.map opT)=au l:=fun l=>by
  induction l with
  | nil=>rfl
  | cons x l ih=>
   obtain ⟨k,a,s,n,ps,l'⟩:=x;rw [List.map_cons];show nbz (opT (.mk k a s n ps l'))+au (l.map opT)=nbz (.mk k a s n ps l')+au l;rw [ih];rfl
 show 0+1+au (l.map opT)<=ps.length+1+au l;rw [h];omega
section
variable {num : Num} {M : Int} {D R : Nat} {G : Tz -> Prop}
end
theorem LeO.len:∀ {l l':List (Bs×Bool×Bool)},LeO l l'->l.length=l'.length
 | [],[],_=>rfl
 | _ :: l,_ :: l',h=>by rw [List.length_cons,List.length_cons,LeO.len h.2]
 | [],_ :: _,h=>h.elim
 | _ :: _,[],h=>h.elim
theorem LeO.at_:∀ {l l':List (Bs×Bool×Bool)},LeO l l'->∀ {i:Nat} {o o':Bs×Bool×Bool},l[i]?=some o->l'[i]?=some o'->o.1=o'.1/\(o.2.1=true->o'.2.1=true)
 | [],[],_,i,o,o',h,_=>Vc
 | x :: l,y :: l',h,0,o,o',h1,h2=>by
  have e1:x=o:=VT;have e2:y=o':=by simpa using h2
  subst e1;subst e2;exact h.1
 | x :: l,y :: l',h,i+1,o,o',h1,h2=>LeO.at_ h.2 VT (by simpa using h2)
 | [],_ :: _,h,_,_,_,_,_=>h.elim
 | _ :: _,[],h,_,_,_,_,_=>h.elim
section
variable {num : Num} {M : Int} {D R : Nat} {G : Tz -> Prop}
end
abbrev fkR(z:Tz):Rf Sf:=fkB aX XM 61 2000 z
def okG(z:Tz):Prop:=lenz z/\nz z/\nbz z<=134217728
theorem fcheck(z:Tz)(hz:okG z)(w:World)(k a:Int)(s:Bs)(n:Nat)(A:Option Addr)(la cA:Nat)(B:Option Addr)(lb cB:Nat)(hT:TIc True w z (nzC k a s n A la cA B lb cB)) :
  Calls Tryz.prog 11 #[aO k a s n A la cA B lb cB] w (FkP w (fkR z)):=by
 obtain ⟨wn,hwn,hbn,aK,hsn⟩:=dw w (nB k a s n A la cA B lb cB);obtain ⟨⟨e0,e1,e2,e3,e4,e5⟩,z0,z1,z2,z3,z4,z5⟩:=Aa.c6 aK;have HC:=Hi (check z hz.1 (Nat.le_trans hz.2.2 V2) wn k a s n A la cA B lb cB (TIz.below hbn hT));have HT:=Hi (TIz.below hbn hT);have HZ:=Hi hz;have HW:=Hi hwn;have HB:=Hi hbn;have HX:=Hi aK;have hfk:fkR z=(match ckB z with | .bad a=>.bad a 120 | .ok _=>flB aX XM 61 2000 z):=rfl;obtain ⟨rs,hrs⟩:∃ rs,ckB z=rs:=⟨_,rfl⟩;have HRS:=Hi hrs;rw [hrs] at hfk HC;obtain ⟨res,hres⟩:∃ res,flB aX XM 61 2000 z=res:=⟨_,rfl⟩;rw [hres] at hfk;rw [hfk];have Ad:=Hi hres;clear hT hz hwn hbn aK hsn hrs hfk hres;go_enter Tryz.func11,Tryz.ntmps11;go_wp2_with fail
 rw [HW.out];refine (show Calls Tryz.prog 28 #[aO k a s n A la cA B lb cB] wn _ from HC.out).mono ?_;intro e w2 h2;cases rs with
 | bad a1=>
  have h2':e = .returned (.tuple #[.agg #[.slice none 0 0,.slice none 0 0,.slice none 0 0],.int .i64 a1,.int .i64 120])/\Below wn.heap.size wn w2:=h2;clear h2;obtain ⟨rfl,hb2⟩:=h2';obtain ⟨w3,hw3,hb3,-⟩:=aS w2 #[.slice none 0 0,.slice none 0 0,.slice none 0 0] 39;have HW3:=Hi hw3;have HB3:=Hi (HB.out.trans ((hb2.trans (hb3.mono hb2.size)).mono HB.out.size));clear hb2 hw3 hb3;go_upto_region 2 with fail
  rw [HW3.out];go_wp2_with fail
  go_ret3
  exact ⟨V2,⟨none,0,rfl⟩,HB3.out⟩
 | ok c=>
  obtain ⟨vs,vp,vo,rfl,hN,hb2⟩:=h2;obtain ⟨As,cs,rfl⟩:=q07 hN.1;obtain ⟨Ap,cp,rfl⟩:=q07 hN.2.1;obtain ⟨Ao,co,rfl⟩:=q07 hN.2.2.1;obtain ⟨w3,hw3,hb3,-⟩:=aS w2 #[.slice As c.se.length cs,.slice Ap c.pu.length cp,.slice Ao c.ou.length co] 39;have hbn3:=hb2.trans (hb3.mono hb2.size);have hX3:=HX.out.below hbn3 HX.out.lt;have HW3:=Hi hw3;have HB3:=Hi (HB.out.trans (hbn3.mono HB.out.size));have HL:=Hi (labels_ z w3 k a s n A la cA B lb cB ⟨TIz.below hbn3 HT.out,HZ.out.1,HZ.out.2.1⟩ HZ.out.2.2 (ck_ar HRS.out));rw [Ad.out] at HL;clear e0 e1 e2 e3 e4 e5 z0 z1 z2 z3 z4 z5;obtain ⟨⟨e0,e1,e2,e3,e4,e5⟩,z0,z1,z2,z3,z4,z5⟩:=Aa.c6 hX3;have hgx:=hX3.lt;clear hN hb2 hw3 hb3 hbn3 hX3 Ad;go_upto_region 2 with fail
  rw [HW3.out];go_wp2_with fail
  refine (show Calls Tryz.prog 29 #[aO k a s n A la cA B lb cB] w3 _ from HL.out).mono ?_;intro e w5 h5;cases res with
  | bad a1 er1=>
   obtain ⟨her,rfl,hb5⟩:=h5;have Ac:=Hi (show FkP w (.bad a1 er1) (.returned (.tuple #[.slice none 0 0,.int .i64 a1,.int .i64 (er1:Int)])) w5 from ⟨her,⟨none,0,rfl⟩,HB3.out.trans (hb5.mono HB3.out.size)⟩);clear hb5 her;go_wp2_with fail
   go_ret3
   exact Ac.out
  | ok d=>
   obtain ⟨hou,⟨A5,k5,rfl,hL5⟩,hb5⟩:=h5;have Ac:=Hi (show FkP w (.ok d) (.returned (.tuple #[.slice A5 d.ou.length k5,.int .i64 0,.int .i64 0])) w5 from ⟨hou,⟨A5,k5,rfl,q0o hL5⟩,HB3.out.trans (hb5.mono HB3.out.size)⟩);clear hb5 hou hL5;go_wp2_with fail
   go_ret3
   exact Ac.out
/-! What the grammar reads is within bounds. -/
mutual
theorem q8l{Q:Bs->Prop}:∀ (x:Tr),gE Q x->nz (bD x)
 | .mk k a s n ps l,h=>by
  unfold gE at h;unfold bD nz;exact ⟨h.2.2.1,q8O l h.2.1⟩
theorem q8O{Q:Bs->Prop}:∀ (l:List Tr),gEs Q l->nzs (bS l)
 | [],_=>V27
 | x :: l,h=>by
  unfold gEs at h;unfold bS nzs;exact ⟨q8l x h.1,q8O l h.2⟩
end
mutual
theorem nz_gS{Q:Bs->Prop}:∀ (x:Tr),gS Q x->nz (bD x)
 | .mk k a s n ps l,h=>by
  unfold gS at h;unfold bD nz;refine ⟨by rw [h.1];decide,?_⟩;rcases h.2.2.2 with ⟨_,_,h⟩ | ⟨_,_,h⟩
  ·exact q8m _ l h
  ·exact q8m _ l h
theorem q8m{Q:Bs->Prop}:∀ (i:Nat) (l:List Tr),gA Q i l->nzs (bS l)
 | _,[],_=>V27
 | 0,x :: l,h=>by
  unfold gA at h;unfold bS nzs;exact ⟨nz_gS x h.1,q8m 0 l h.2⟩
 | i+1,x :: l,h=>by
  unfold gA at h;unfold bS nzs;exact ⟨q8l x h.1,q8m i l h.2⟩
end
theorem nz_gT{Q:Bs->Prop}{x:Tr}(h:gT Q x):nz (bD x):=by
 obtain ⟨k,a,s,n,ps,l⟩:=x;unfold gT at h;rcases h with h | ⟨hn,h⟩
 ·exact nz_gS _ h
 ·unfold bD nz;refine ⟨by rw [hn];decide,?_⟩;rcases h with ⟨_,_,rfl,_⟩ | ⟨_,_,_,x,rfl,hx⟩ | ⟨_,_,_,_,x,rfl,hx⟩
  ·unfold bS nzs;trivial
  ·unfold bS bS nzs nzs;exact ⟨q8l x hx,trivial⟩
  ·unfold bS bS nzs nzs;exact ⟨q8l x hx,trivial⟩
theorem q8P{Q:Bs->Prop}:∀ {l:List Tr},(∀ y∈l,gT Q y)->nzs (bS l)
 | [],_=>V27
 | x :: l,h=>by
  unfold bS nzs;exact ⟨nz_gT (h x V3),q8P fun y hy=>h y (by simp [hy])⟩
theorem q8Q:∀ {l:List Tz},nzs l->nzs (l.map opT)
 | [],_=>by unfold nzs;trivial
 | .mk k a s n ps q :: l,h=>by
  unfold nzs at h;rw [List.map_cons];unfold nzs;refine ⟨?_,q8Q h.2⟩;have h1:=q3I h.1;show nz (.mk (if k = 6 then 7 else k) a s n ps q);unfold nz;exact h1
theorem q5u:∀ {l:List Tz},aY l->aY (l.map opT)
 | [],_=>by unfold aY;trivial
 | .mk k a s n ps q :: l,h=>by
  unfold aY at h;rw [List.map_cons];unfold aY;refine ⟨?_,q5u h.2⟩;have h1:=q0G h.1;show lenz (.mk (if k = 6 then 7 else k) a s n ps q);unfold lenz;exact h1
theorem okG_op{z:Tz}(h:okG z):okG (opz z):=by
 obtain ⟨k,a,s,n,ps,l⟩:=z;obtain ⟨h1,h2,h3⟩:=h;refine ⟨?_,?_,Nat.le_trans (nbz_op _) h3⟩
 ·show lenz (.mk k 0 [] 0 [] (l.map opT));unfold lenz;exact ⟨Nat.zero_le _,fun p hp=>(by cases hp),q5u (q0G h1).2.2⟩
 ·show nz (.mk k 0 [] 0 [] (l.map opT));unfold nz;exact ⟨V2,q8Q (q3I h2).2⟩
theorem q3P{s:Bs}{x:Tr}{t:Tk}{r:List Tk}(he:(af s).er = 0)(h:Al (af s).l (.ok [x] (t :: r))):okG (bD x):=by
 obtain ⟨h1,_,_⟩:=q6P he h;obtain ⟨zs,e1,h2,_⟩:=h;simp only [List.cons.injEq,and_true] at e1;subst e1;obtain ⟨f,hf⟩:=h2.at_;have hm:=q6M (num:=ag) f (.stmts []) 0 (af s).l;rw [hf] at hm;have hw:=q5g he;have hm1:=hm.1;have hwz:wts zs<=80004000:=by
  have:bC (.stmts []) = 0:=rfl;omega
 have hg:=q5Z (num:=ag) (Q:=fun _=>True) q6J f (.stmts []) 0 (af s).l trivial (fun _ _ _=>trivial);rw [hf] at hg;obtain ⟨ys,e,hy⟩:=hg.1;have hys:zs=ys:=V0D;subst hys;refine ⟨h1,?_,?_⟩
 ·unfold bD nz;exact ⟨V2,q8P hy⟩
 ·exact V3i
def FpB(s:Bs)(a:Int)(er:Nat):Prop:=BadN s a er\/((af s).er = 0/\∃ x t r c,Al (af s).l (.ok [x] (t :: r))/\ckB (bD x) = .ok c/\flB aX XM 61 2000 (bD x) = .bad a er)
def FpP(s:ByteArray)(w:World)(e:Ending)(w':World):Prop:=
 (∃ (k a:Int) (sx:Bs) (n:Nat) (A:Option Addr) (la cA:Nat) (B:Option Addr) (lb cB:Nat) (As:Option Addr) (ls cs:Nat) (Ap:Option Addr) (lp cp:Nat) (Ao:Option Addr) (co:Nat) (x:Tr) (t:Tk) (r:List Tk) (c:St) (d:Sf),e = .returned (.tuple #[aO k a sx n A la cA B lb cB,.agg #[.slice As ls cs,.slice Ap lp cp,.slice Ao d.ou.length co],.int .i64 0,.int .i64 0])/\(af s.data.toList).er = 0/\Al (af s.data.toList).l (.ok [x] (t :: r))/\ckB (bD x) = .ok c/\flB aX XM 61 2000 (bD x) = .ok d /\
  Af w' Ao (d.ou.flatMap lbC)/\Below w.heap.size w w') \/
 (∃ (a:Int) (er:Nat),e = .returned (.tuple #[zA,nA3,.int .i64 a,.int .i64 (er:Int)])/\er≠0/\FpB s.data.toList a er/\Below w.heap.size w w')
theorem fpgm(s:ByteArray)(w:World):Calls Tryz.prog 13 #[.string s] w (FpP s w):=by
 obtain ⟨w0,hw0,hb0,hB,hs0⟩:=dw w #[.int .i64 0,.string ⟨#[]⟩,.int .u32 0,.int .i64 0,.slice none 0 0,.slice none 0 0];obtain ⟨w1,hw1,hb1,-⟩:=aS w0 #[.slice none 0 0,.slice none 0 0,.slice none 0 0] 39;have hs1:w1.heap.size=w.heap.size+2:=by rw [<-hw1];simp;omega
 have hC:Aa w1 (w.heap.size+1) 39 #[.slice none 0 0,.slice none 0 0,.slice none 0 0]:=by rw [<-hw1,<-hs0];exact Aa.new _ _ _
 have HB01:=Hi (hb0.trans (hb1.mono hb0.size));obtain ⟨g,hg⟩:∃ g,w.heap.size=g:=⟨_,rfl⟩;obtain ⟨g',hg'⟩:∃ g',g+1=g':=⟨_,rfl⟩;rw [hg] at hB hC;rw [hg'] at hC;have hgg:¬ g=g':=V0;have hgg':¬ g'=g:=V0;have HG:=Hi hg;have HG':=Hi hg';have HB:=Hi (hB.below hb1 hB.lt);have HC:=Hi hC;have HW0:=Hi hw0;have HW1:=Hi hw1;have HP:=Hi (pgm s w1);have HS1:=Hi hs1;have HS0:=Hi hs0;clear hw0 hb0 hB hw1 hb1 hC hs1 hs0 hg hg';go_enter Tryz.func13,Tryz.ntmps13;go_upto_region 1 with fail
 rw [HW0.out];rw [HW1.out];simp only [HG.out,HG'.out];go_wp2_with fail
 refine HP.out.mono ?_;rintro e w2 (⟨k,a,sx,n,A,la,cA,B,lb,cB,x,t,r,vs,vp,vo,c,rfl,h1,h2,h3,hT,hN,hb⟩ | ⟨a,er,rfl,hne,hbad,hb⟩)
 ·obtain ⟨As,cs,rfl⟩:=q07 hN.1;obtain ⟨Ap,cp,rfl⟩:=q07 hN.2.1;obtain ⟨Ao,co,rfl⟩:=q07 hN.2.2.1;obtain ⟨w3,hw3,hb3,hX3,hs3⟩:=dw w2 (nB (k:Int) (a:Int) sx n A la cA B lb cB);obtain ⟨w4,hw4,hb4,hY4⟩:=aS w3 #[.slice As c.se.length cs,.slice Ap c.pu.length cp,.slice Ao c.ou.length co] 39;have hb24:=hb3.trans (hb4.mono hb3.size);have hb14:=hb.trans (hb24.mono hb.size);have hX4:=hX3.below hb4 hX3.lt;have hT4:=TIz.below hb24 (q4W hT);have hok:=q3P h1 h2;have HL:=Hi (labels_ (bD x) w4 (k:Int) (a:Int) sx n A la cA B lb cB ⟨hT4,hok.1,hok.2.1⟩ hok.2.2 (ck_ar h3));obtain ⟨gn,hgn⟩:∃ gn,w2.heap.size=gn:=⟨_,rfl⟩;obtain ⟨gm,hgm⟩:∃ gm,gn+1=gm:=⟨_,rfl⟩;rw [hgn] at hX4 hX3;rw [hs3,hgn,hgm] at hY4;have hgnm:gn < gm:=V0;have HGN:=Hi hgn;have HGM:=Hi hgm;have hg1:g' < gn:=by have:=HC.out.lt;have:=hb.size;omega
  have Ba:=Hi hX4;have HY4:=Hi hY4;have HW3:=Hi hw3;have HW4:=Hi hw4;have HB4:=Hi hb14;have HER:=Hi h1;have HRD:=Hi h2;have HCK:=Hi h3;obtain ⟨⟨e0,e1,e2,e3,e4,e5⟩,z0,z1,z2,z3,z4,z5⟩:=Aa.c6 hX4;have hgx:=hX4.lt;obtain ⟨res,hres⟩:∃ res,flB aX XM 61 2000 (bD x)=res:=⟨_,rfl⟩;have Ad:=Hi hres;rw [hres] at HL;have hgg1:g < gn:=by have:=HG'.out;omega
  clear hN hw3 hb3 hX3 hs3 hw4 hb4 hY4 hb24 hb14 hX4 hT4 hok hT hb h1 h2 h3 hres HP hgn hgm;go_upto_region 2 with fail
  rw [HW3.out,HW4.out];simp only [HGN.out,HGM.out];go_wp2_with fail
  refine (show Calls Tryz.prog 29 #[aO (k:Int) (a:Int) sx n A la cA B lb cB] w4 _ from HL.out).mono ?_;intro e w5 h5;clear e0 e1 e2 e3 e4 e5 z0 z1 z2 z3 z4 z5 hgx;cases res with
  | bad a1 er1=>
   obtain ⟨her,rfl,hb5⟩:=h5;have hY5:=HY4.out.below hb5 HY4.out.lt;have hX5:=Ba.out.below hb5 Ba.out.lt;have hb15:=HB4.out.trans (hb5.mono HB4.out.size);have hA5:=HB.out.below hb15 HB.out.lt;have hC5:=HC.out.below hb15 HC.out.lt;obtain ⟨d0,d1,d2,f0,f1,f2⟩:=fst3 hY5;have hgy:=hY5.lt;obtain ⟨w6,hw6⟩:∃ u,w5.setCell ⟨gm,2,none⟩ (.slice none 0 0)=u:=⟨_,rfl⟩;have bX:Upd (fun b=>b=gm) w5 w6:=V3Q;have hB15:=HB01.out.trans (hb15.mono VU);have hB16:=hB15.trans (bX.below (B:=w.heap.size) hB15.size fun b hb=>V0A);have hA6:=hA5.upd bX V0;have hC6:=hC5.upd bX V0;obtain ⟨⟨e0,e1,e2,e3,e4,e5⟩,z0,z1,z2,z3,z4,z5⟩:=Aa.c6 hA6;obtain ⟨c0,c1,c2,x0,x1,x2⟩:=fst3 hC6;have hgl:=hA6.lt;have hgl':=hC6.lt;obtain ⟨p1,p2,p3⟩:=put9 hgg hA6 hC6 (.int .i64 0) (.string ⟨#[]⟩) (.int .u32 0) (.int .i64 0) (.slice none 0 0) (.slice none 0 0) (.slice none 0 0) (.slice none 0 0) (.slice none 0 0);have HN1:=Hi p1;have HN2:=Hi p2;have hz:((er1:Int) != 0)=true:=V4;have HW6:=Hi hw6;have Ac:=Hi (show FpP s w (.returned (.tuple #[zA,nA3,.int .i64 a1,.int .i64 (er1:Int)])) _ from .inr ⟨a1,er1,rfl,her,.inr ⟨HER.out,x,t,r,c,HRD.out,HCK.out,Ad.out⟩,hB16.trans (p3.below (B:=w.heap.size) hB16.size fun b hb=>V0A)⟩);clear hb5 hY5 hX5 hb15 hB15 hB16 hA5 hC5 hw6 bX hA6 hC6 p1 p2 p3 HL her;go_upto_region 5 with fail
   rw [HW6.out];go_wp2_with fail
   exact bodyPost_ret (v:=.tuple #[zA,nA3,.int .i64 a1,.int .i64 (er1:Int)]) (q1K rfl _ _ rfl rfl HN1.out HN2.out rfl rfl rfl rfl) rfl Ac.out
  | ok d=>
   obtain ⟨hou,⟨A5,k5,rfl,hL5⟩,hb5⟩:=h5;have hY5:=HY4.out.below hb5 HY4.out.lt;have hX5:=Ba.out.below hb5 Ba.out.lt;have hb15:=HB4.out.trans (hb5.mono HB4.out.size);have hA5:=HB.out.below hb15 HB.out.lt;have hC5:=HC.out.below hb15 HC.out.lt;obtain ⟨d0,d1,d2,f0,f1,f2⟩:=fst3 hY5;have hgy:=hY5.lt;obtain ⟨w6,hw6⟩:∃ u,w5.setCell ⟨gm,2,none⟩ (.slice A5 d.ou.length k5)=u:=⟨_,rfl⟩;have bX:Upd (fun b=>b=gm) w5 w6:=V3Q;have hY6:Aa w6 gm 39 #[.slice As c.se.length cs,.slice Ap c.pu.length cp,.slice A5 d.ou.length k5]:=by rw [<-hw6];exact hY5.set 2 _
   have hB15:=HB01.out.trans (hb15.mono VU);have hB16:=hB15.trans (bX.below (B:=w.heap.size) hB15.size fun b hb=>V0A);have hA6:=hA5.upd bX V0;have hC6:=hC5.upd bX V0;have hX6:=hX5.upd bX V0;obtain ⟨c0,c1,c2,x0,x1,x2⟩:=fst3 hC6;obtain ⟨⟨e0,e1,e2,e3,e4,e5⟩,z0,z1,z2,z3,z4,z5⟩:=Aa.c6 hA6;obtain ⟨⟨b0,b1,b2,b3,b4,b5⟩,y0,y1,y2,y3,y4,y5⟩:=Aa.c6 hX6;obtain ⟨q0,q1,q2,u0,u1,u2⟩:=fst3 hY6;have hgl:=hA6.lt;have hgl':=hC6.lt;have hgl2:=hX6.lt;have hgl3:=hY6.lt;obtain ⟨p1,p2,p3⟩:=put9 hgg hA6 hC6 (.int .i64 (k:Int)) (.string ⟨sx.toArray⟩) (.int .u32 (n:Int)) (.int .i64 (a:Int)) (.slice A la cA) (.slice B lb cB) (.slice As c.se.length cs) (.slice Ap c.pu.length cp) (.slice A5 d.ou.length k5);obtain ⟨wp,hwp⟩:∃ wp,Nm.put3 (Pa.az w6 g (.int .i64 (k:Int)) (.string ⟨sx.toArray⟩) (.int .u32 (n:Int)) (.int .i64 (a:Int)) (.slice A la cA) (.slice B lb cB)) g' (.slice As c.se.length cs) (.slice Ap c.pu.length cp) (.slice A5 d.ou.length k5)=wp:=⟨_,rfl⟩;rw [hwp] at p1 p2 p3;have hdr:Below wp.heap.size wp wp.drew:=Below.drew (Below.refl _ _);have HN1:=Hi (p1.below hdr p1.lt);have HN2:=Hi (p2.below hdr p2.lt);have p3':=p3.trans (Upd.of_below hdr (fun b=>b=g\/b=g'));have Ac:=Hi (show FpP s w (.returned (.tuple #[aO (k:Int) (a:Int) sx n A la cA B lb cB,.agg #[.slice As c.se.length cs,.slice Ap c.pu.length cp,.slice A5 d.ou.length k5],.int .i64 0,.int .i64 0])) wp.drew from
    .inl ⟨k,a,sx,n,A,la,cA,B,lb,cB,As,_,cs,Ap,_,cp,A5,k5,x,t,r,c,d,rfl,HER.out,HRD.out,HCK.out,Ad.out,q0o (Nm.ae (Nm.ae hL5 bX fun b hb e=>V4j) p3' fun b hb e=>V4j),hB16.trans (p3'.below (B:=w.heap.size) hB16.size fun b hb=>V0A)⟩)
   have HW6:=Hi hw6;have hwp':=hwp;unfold Nm.put3 Pa.az at hwp';have HWP:=Hi hwp';have i1:¬ g=gm:=V0;have i2:¬ gm=g:=V0;have i3:¬ g'=gm:=V0;have i4:¬ gm=g':=V0;have i5:¬ g=gn:=V0;have i6:¬ gn=g:=V0;have i7:¬ g'=gn:=V0;have i8:¬ gn=g':=V0;clear hb5 hY5 hX5 hb15 hB15 hB16 hA5 hC5 hw6 bX hA6 hC6 hX6 hY6 p1 p2 p3 p3' hwp hwp' hdr HL hou hL5;go_upto_region 5 with fail
   rw [HW6.out];go_upto_region 7 with fail
   go_region
   all_goals (
    rw [HWP.out];go_wp2_with fail
    exact bodyPost_ret (v:=.tuple #[aO (k:Int) (a:Int) sx n A la cA B lb cB,.agg #[.slice As c.se.length cs,.slice Ap c.pu.length cp,.slice A5 d.ou.length k5],.int .i64 0,.int .i64 0]) (q1K rfl _ _ rfl rfl HN1.out HN2.out rfl rfl rfl rfl) rfl Ac.out)
 ·have hX:=HB.out.below hb HB.out.lt;have hY:=HC.out.below hb HC.out.lt;obtain ⟨w3,hw3,hb3,hX3,hs3⟩:=dw w2 #[.int .i64 0,.string ⟨#[]⟩,.int .u32 0,.int .i64 0,.slice none 0 0,.slice none 0 0];obtain ⟨w4,hw4,hb4,-⟩:=aS w3 #[.slice none 0 0,.slice none 0 0,.slice none 0 0] 39;have hb24:=hb3.trans (hb4.mono hb3.size);have hb14:=hb.trans (hb24.mono hb.size);have hX':=hX.below hb24 hX.lt;have hY':=hY.below hb24 hY.lt;obtain ⟨⟨e0,e1,e2,e3,e4,e5⟩,z0,z1,z2,z3,z4,z5⟩:=Aa.c6 hX';obtain ⟨c0,c1,c2,f0,f1,f2⟩:=fst3 hY';have hgl:=hX'.lt;have hgl':=hY'.lt;obtain ⟨p1,p2,p3⟩:=put9 hgg hX' hY' (.int .i64 0) (.string ⟨#[]⟩) (.int .u32 0) (.int .i64 0) (.slice none 0 0) (.slice none 0 0) (.slice none 0 0) (.slice none 0 0) (.slice none 0 0);have HN1:=Hi p1;have HN2:=Hi p2;have hz:((er:Int) != 0)=true:=V4;have Ac:=Hi (show FpP s w (.returned (.tuple #[zA,nA3,.int .i64 a,.int .i64 (er:Int)])) _ from .inr ⟨a,er,rfl,hne,.inl hbad,(HB01.out.trans (hb14.mono VU)).trans (p3.below (by have:=hb14.size;have:=HS1.out;omega) fun b hb=>V0A)⟩);have HW3:=Hi hw3;have HW4:=Hi hw4;clear hX hY hX' hY' hb hb14 hb24 hb3 hb4 hX3 hw3 hw4 hs3 p1 p2 p3 hbad hne;go_upto_region 2 with fail
  rw [HW3.out,HW4.out];go_wp2_with fail
  exact bodyPost_ret (v:=.tuple #[zA,nA3,.int .i64 a,.int .i64 (er:Int)]) (q1K rfl _ _ rfl rfl HN1.out HN2.out rfl rfl rfl rfl) rfl Ac.out
def txC:Bs:=[115,101,99,114,101,116,32,97,59,32,112,117,98,108,105,99,32,112,59,32,111,117,116,32,111,32,61,32,97,32,94,32,112,59,32,115,104,111,119,32,113,32,61,32,112,59]
def txD:Bs:=[115,101,99,114,101,116,32,97,59,32,111,117,116,32,111,32,61,32,49,32,60,60,32,97,59]
def tkC':List Tk:=[⟨3,[115,101,99,114,101,116],0⟩,⟨1,[97],7⟩,⟨4,[59],8⟩,⟨3,[112,117,98,108,105,99],10⟩,⟨1,[112],17⟩,⟨4,[59],18⟩,⟨3,[111,117,116],20⟩,⟨1,[111],24⟩,⟨4,[61],26⟩,⟨1,[97],28⟩,⟨4,[94],30⟩,⟨1,[112],32⟩,⟨4,[59],33⟩,⟨3,[115,104,111,119],35⟩,⟨1,[113],40⟩,⟨4,[61],42⟩,⟨1,[112],44⟩,⟨4,[59],45⟩,⟨0,[],46⟩]
def tkD':List Tk:=[⟨3,[115,101,99,114,101,116],0⟩,⟨1,[97],7⟩,⟨4,[59],8⟩,⟨3,[111,117,116],10⟩,⟨1,[111],14⟩,⟨4,[61],16⟩,⟨2,[49],18⟩,⟨4,[60,60],20⟩,⟨1,[97],23⟩,⟨4,[59],24⟩,⟨0,[],25⟩]
def zsC:List Tr:=[.mk 6 0 [] 0 [[97]] [],.mk 7 10 [] 0 [[112]] [],.mk 8 20 [111] 0 [] [.mk 3 28 [94] 0 [] [.mk 1 28 [97] 0 [] [],.mk 1 32 [112] 0 [] []]],.mk 9 35 [113] 0 [] [.mk 1 44 [112] 0 [] []]]
def zsD:List Tr:=[.mk 6 0 [] 0 [[97]] [],.mk 8 10 [111] 0 [] [.mk 4 18 [60,60] 0 [] [.mk 0 18 [] 1 [] [],.mk 1 23 [97] 0 [] []]]]
theorem wordsC:af txC=⟨tkC',0,0⟩:=V8
theorem wordsD:af txD=⟨tkD',0,0⟩:=V8
theorem treeC:pF ag 60 (.stmts []) 0 tkC'=some (.ok zsC [⟨0,[],46⟩]):=V8
theorem treeD:pF ag 60 (.stmts []) 0 tkD'=some (.ok zsD [⟨0,[],25⟩]):=V8
theorem progC:Al tkC' (.ok [.mk 13 0 [] 0 [] zsC] [⟨0,[],46⟩]):=⟨zsC,rfl,⟨60,fun f hf=>q3o ag 60 f hf _ _ _ _ treeC⟩,_,_,rfl,rfl⟩
theorem progD:Al tkD' (.ok [.mk 13 0 [] 0 [] zsD] [⟨0,[],25⟩]):=⟨zsD,rfl,⟨60,fun f hf=>q3o ag 60 f hf _ _ _ _ treeD⟩,_,_,rfl,rfl⟩
theorem ckC:∃ c,ckB (bD (.mk 13 0 [] 0 [] zsC)) = .ok c:=⟨_,rfl⟩
theorem ckD:∃ c,ckB (bD (.mk 13 0 [] 0 [] zsD)) = .ok c:=⟨_,rfl⟩
theorem flC:∃ d,flB aX XM 61 2000 (bD (.mk 13 0 [] 0 [] zsC)) = .ok d/\d.ou=[([111],true,false),([113],false,true)]:=⟨_,rfl,rfl⟩
theorem flD:flB aX XM 61 2000 (bD (.mk 13 0 [] 0 [] zsD)) = .bad 23 130:=V8
theorem fpC(w:World):Calls Tryz.prog 13 #[.string ⟨txC.toArray⟩] w fun e w'=>∃ (k a:Int) (sx:Bs) (n:Nat) (A:Option Addr) (la cA:Nat) (B:Option Addr) (lb cB:Nat) (As:Option Addr) (ls cs:Nat) (Ap:Option Addr) (lp cp:Nat) (Ao:Option Addr) (co:Nat),e = .returned (.tuple #[aO k a sx n A la cA B lb cB,.agg #[.slice As ls cs,.slice Ap lp cp,.slice Ao 2 co],.int .i64 0,.int .i64 0])/\Af w' Ao (([([111],true,false),([113],false,true)]:List (Bs×Bool×Bool)).flatMap lbC)/\Below w.heap.size w w':=by
 refine (fpgm ⟨txC.toArray⟩ w).mono fun e w' h=>?_
 have hw:af (⟨txC.toArray⟩:ByteArray).data.toList=⟨tkC',0,0⟩:=wordsC;obtain ⟨c0,hc0⟩:=ckC;obtain ⟨d0,hd0,hou⟩:=flC;rcases h with ⟨k,a,sx,n,A,la,cA,B,lb,cB,As,ls,cs,Ap,lp,cp,Ao,co,x,t,r,c,d,rfl,h1,h2,h3,h4,hL,hb⟩ | ⟨a,er,rfl,hne,hbad,hb⟩
 ·rw [hw] at h2;obtain rfl:=q1J h2 progC;rw [hd0] at h4;cases h4;rw [hou] at hL;rw [hou];exact ⟨k,a,sx,n,A,la,cA,B,lb,cB,As,ls,cs,Ap,lp,cp,Ao,co,rfl,hL,hb⟩
 ·exfalso;rcases hbad with (⟨a',_,h⟩ | ⟨_,_,x,t,r,h,h'⟩) | ⟨_,x,t,r,c,h,h',h''⟩
  ·exact q10 (l:=af (⟨txC.toArray⟩:ByteArray).data.toList) (by rw [hw]) (by rw [hw];exact progC) h
  ·rw [hw] at h;obtain rfl:=q1J h progC;rw [hc0] at h';cases h'
  ·rw [hw] at h;obtain rfl:=q1J h progC;rw [hd0] at h'';cases h''
theorem fpD(w:World):Calls Tryz.prog 13 #[.string ⟨txD.toArray⟩] w fun e w'=>e = .returned (.tuple #[zA,nA3,.int .i64 23,.int .i64 130])/\Below w.heap.size w w':=by
 refine (fpgm ⟨txD.toArray⟩ w).mono fun e w' h=>?_
 have hw:af (⟨txD.toArray⟩:ByteArray).data.toList=⟨tkD',0,0⟩:=wordsD;obtain ⟨c0,hc0⟩:=ckD;rcases h with ⟨k,a,sx,n,A,la,cA,B,lb,cB,As,ls,cs,Ap,lp,cp,Ao,co,x,t,r,c,d,rfl,h1,h2,h3,h4,hL,hb⟩ | ⟨a,er,rfl,hne,hbad,hb⟩
 ·exfalso;rw [hw] at h2;obtain rfl:=q1J h2 progD;rw [flD] at h4;cases h4
 ·rcases hbad with (⟨a',_,h⟩ | ⟨_,_,x,t,r,h,h'⟩) | ⟨_,x,t,r,c,h,h',h''⟩
  ·exact (q10 (l:=af (⟨txD.toArray⟩:ByteArray).data.toList) (by rw [hw]) (by rw [hw];exact progD) h).elim
  ·rw [hw] at h;obtain rfl:=q1J h progD;rw [hc0] at h';cases h'
  ·rw [hw] at h;obtain rfl:=q1J h progD;rw [flD] at h'';cases h'';exact ⟨rfl,hb⟩
theorem fpBad(s:ByteArray)(w:World)(a er:Nat)(hbad:BadR Al (af s.data.toList) a er):Calls Tryz.prog 13 #[.string s] w fun e w'=>(∃ p:Int,e = .returned (.tuple #[zAo,.agg #[.slice none 0 0,.slice none 0 0,.slice none 0 0],.int .i64 p,.int .i64 (er:Int)]))/\Below w.heap.size w w':=by
 refine (fpgm s w).mono fun e w' h=>?_
 rcases h with ⟨k,a1,sx,n,A,la,cA,B,lb,cB,As,ls,cs,Ap,lp,cp,Ao,co,x,t,r,c,d,rfl,h1,h2,h3,h4,hL,hb⟩ | ⟨a1,er1,rfl,hne,hb1,hb⟩
 ·exact (q10 h1 h2 hbad).elim
 ·rcases hb1 with (⟨a',_,h⟩ | ⟨he,_,x,t,r,h,h'⟩) | ⟨he,x,t,r,c,h,h',h''⟩
  ·obtain ⟨_,rfl⟩:=q7X hbad h;exact ⟨⟨a1,rfl⟩,hb⟩
  ·exact (q10 he h hbad).elim
  ·exact (q10 he h hbad).elim
theorem lives(w:World):Calls Tryz.prog 10 #[] w fun e w'=>e = .returned (.bool true)/\Below w.heap.size w w':=by
 have HA:=Hi (fpC w);have Ay:=Hi fpD;go_enter Tryz.func10,Tryz.ntmps10;go_wp2_with fail
 refine (show Calls Tryz.prog 13 #[.string ⟨#[115,101,99,114,101,116,32,97,59,32,112,117,98,108,105,99,32,112,59,32,111,117,116,32,111,32,61,32,97,32,94,32,112,59,32,115,104,111,119,32,113,32,61,32,112,59]⟩] w _ from HA.out).mono ?_;rintro e w1 ⟨k,a,sx,n,A,la,cA,B,lb,cB,As,ls,cs,Ap,lp,cp,Ao,co,rfl,hL,hb1⟩;obtain ⟨w2,hw2,hb2,hX2,hs2⟩:=dw w1 (nB k a sx n A la cA B lb cB);obtain ⟨w3,hw3,hb3,hX3⟩:=aS w2 #[.slice As ls cs,.slice Ap lp cp,.slice Ao 2 co] 39;rw [hs2] at hX3;have aG:=hb2.trans (hb3.mono hb2.size);have HL3:=Hi (hL.below aG);have HB:=Hi (hb1.trans (aG.mono hb1.size));have Aq:=Hi hX3;have HW2:=Hi hw2;have HW3:=Hi hw3;have HC:=Hi (Ay.out w3);clear hb1 hb2 hb3 aG hw2 hw3 hX2 hX3 hs2 HA hL;go_upto_region 2 with fail
 rw [HW2.out,HW3.out];go_wp2_with fail
 refine (show Calls Tryz.prog 13 #[.string ⟨#[115,101,99,114,101,116,32,97,59,32,111,117,116,32,111,32,61,32,49,32,60,60,32,97,59]⟩] w3 _ from HC.out).mono ?_;rintro e w4 ⟨rfl,hb4⟩;obtain ⟨w5,hw5,hb5,hX5,hs5⟩:=dw w4 #[.int .i64 0,.string ⟨#[]⟩,.int .u32 0,.int .i64 0,.slice none 0 0,.slice none 0 0];obtain ⟨w6,hw6,hb6,-⟩:=aS w5 #[.slice none 0 0,.slice none 0 0,.slice none 0 0] 39;have hb36:=hb4.trans ((hb5.trans (hb6.mono hb5.size)).mono hb4.size);have hY6:=Aq.out.below hb36 Aq.out.lt;obtain ⟨c0,c1,c2,f0,f1,f2⟩:=fst3 hY6;have hgl:=hY6.lt;have hL6:=HL3.out.below hb36;obtain ⟨b1,o1,rfl,hl1,g10,g11,g12⟩:=q5t (l:=[([111],true,false),([113],false,true)]) hL6 (i:=0) (x:=([111],true,false)) rfl;obtain ⟨b2,o2,hA2,hl2,g20,g21,g22⟩:=q5t (l:=[([111],true,false),([113],false,true)]) hL6 (i:=1) (x:=([113],false,true)) rfl;simp only [Option.some.injEq,Addr.mk.injEq,and_true] at hA2;obtain ⟨rfl,rfl⟩:=hA2;simp only [Nat.zero_mul,Nat.add_zero] at g10 g11 g12;simp only [Nat.one_mul,Nat.add_assoc,Nat.reduceAdd] at g20 g21 g22;have HB6:=Hi (HB.out.trans (hb36.mono HB.out.size));have HW5:=Hi hw5;have HW6:=Hi hw6;clear hb4 hb5 hb6 hb36 hw5 hw6 hX5 hs5 hL6 hY6;go_upto_region 3 with fail
 rw [HW5.out,HW6.out];go_wp2_with fail
 go_ret;exact ⟨rfl,HB6.out⟩
end Fl
namespace Fl
open Go Go.ChangeShapes Go.WideShapes Go.ChangeAt Go.RowKit Lx Args Pa Sh Go.Proofs.YtcgibpdjfgjldaaGreatDoor.Nm
theorem HFc:Hid (∀ (z:Tz),okG z->nbz z<=1099511627776->∀ (w:World) (k a:Int) (s:Bs) (n:Nat) (A:Option Addr) (la cA:Nat) (B:Option Addr) (lb cB:Nat),TIc True w z (nzC k a s n A la cA B lb cB)->Calls Tryz.prog 11 #[aO k a s n A la cA B lb cB] w (FkP w (fkB aX XM 61 2000 z))):=
 Hi fun z hz _ w k a s n A la cA B lb cB hT=>fcheck z hz w k a s n A la cA B lb cB hT
theorem HGc:Hid (∀ (s:Bs) (x:Tr) (t:Tk) (r:List Tk),(af s).er = 0->Al (af s).l (.ok [x] (t :: r))->okG (bD x)/\okG (opz (bD x))):=
 Hi fun s x t r he h=>⟨q3P he h,okG_op (q3P he h)⟩
end Fl
namespace Fl
open Go Go.ChangeShapes Go.WideShapes Go.ChangeAt Go.RowKit Lx Args Pa Sh Go.Proofs.YtcgibpdjfgjldaaGreatDoor.Nm
section
variable {num : Num} {M : Int} {D R : Nat} {G : Tz -> Prop}
theorem walkNames(HF:Hid (∀ (z:Tz),G z->nbz z<=1099511627776->∀ (w:World) (k a:Int) (s:Bs) (n:Nat) (A:Option Addr) (la cA:Nat) (B:Option Addr) (lb cB:Nat),TIc True w z (nzC k a s n A la cA B lb cB)->Calls Tryz.prog 11 #[aO k a s n A la cA B lb cB] w (FkP w (fkB num M D R z))))
  (HRC:Hid (∀ (z:Tz),okPs 0 (lz z)->nbz z<=1099511627776->∀ (w:World) (k a:Int) (s:Bs) (n:Nat) (A:Option Addr) (la cA:Nat) (B:Option Addr) (lb cB:Nat),TIc True w z (nzC k a s n A la cA B lb cB)->Calls Tryz.prog 14 #[aO k a s n A la cA B lb cB] w (ChkP w (ckB z))))
  (HPg:Hid (∀ (s:ByteArray) (w:World) (a er:Nat),BadR Al (af s.data.toList) a er->Calls Tryz.prog 13 #[.string s] w fun e w'=>(∃ p:Int,e = .returned (.tuple #[zAo,.agg #[.slice none 0 0,.slice none 0 0,.slice none 0 0],.int .i64 p,.int .i64 (er:Int)]))/\Below w.heap.size w w'))
  (HLI:Hid (∀ w:World,Calls Tryz.prog 10 #[] w fun e w'=>e = .returned (.bool true)/\Below w.heap.size w w'))
  (HG:Hid (∀ (s:Bs) (x:Tr) (t:Tk) (r:List Tk),(af s).er = 0->Al (af s).l (.ok [x] (t :: r))->G (bD x)/\G (opz (bD x))))
  (W:World) (s:ByteArray):Calls Tryz.prog 4 #[.string s] W fun e W'=>e = .returned (.bool true)/\Below W.heap.size W W':=by
 have HP:=Hi (Pq.r_program s W);go_enter Tryz.func4,Tryz.ntmps4;go_wp2_with fail
 refine HP.out.mono ?_;rintro e w1 (⟨k,a,sx,n,A,la,cA,B,lb,cB,x,t,r,rfl,h1,h2,h3,hT,hb⟩ | ⟨a,er,rfl,hbad,hb⟩)
 ·obtain ⟨w2,hw2,hb2,hX2,hs2⟩:=dw w1 (nB (k:Int) (a:Int) sx n A la cA B lb cB);obtain ⟨hz1,hz2,hz3⟩:=q6P h1 h2;have hT2:=TIz.below hb2 (q4W hT);have HC1:=Hi (HRC.out (bD x) hz3 hz2 w2 (k:Int) (a:Int) sx n A la cA B lb cB hT2);have HGG:=Hi (HG.out _ x t r h1 h2).1;have HNB:=Hi hz2;have HB2:=Hi (hb.trans (hb2.mono hb.size));have HW2:=Hi hw2;have HT2:=Hi hT2;have Ah:=Hi hX2;obtain ⟨⟨e0,e1,e2,e3,e4,e5⟩,z0,z1,z2,z3,z4,z5⟩:=Aa.c6 hX2;have hl2:=hX2.lt;have hfk:fkB num M D R (bD x)=(match ckB (bD x) with | .bad a=>.bad a 120 | .ok _=>flB num M D R (bD x)):=rfl;obtain ⟨rs,hrs⟩:∃ rs,ckB (bD x)=rs:=⟨_,rfl⟩;rw [hrs] at HC1 hfk;have HFK:=Hi hfk;clear h1 h2 h3 hT hb hw2 hb2 hX2 hs2 hz1 hz2 hz3 hT2 hrs hfk;go_upto_region 5 with fail
  rw [HW2.out];go_wp2_with fail
  refine (show Calls Tryz.prog 14 #[aO (k:Int) (a:Int) sx n A la cA B lb cB] w2 _ from HC1.out).mono ?_;intro e w3 h3;cases rs with
  | bad a1=>
   have h3':e = .returned (.tuple #[.agg #[.slice none 0 0,.slice none 0 0,.slice none 0 0],.int .i64 a1,.int .i64 120])/\Below w2.heap.size w2 w3:=h3;clear h3;obtain ⟨rfl,hb3⟩:=h3';obtain ⟨w4,hw4,hb4,-⟩:=aS w3 #[.slice none 0 0,.slice none 0 0,.slice none 0 0] 39;have hb24:=hb3.trans (hb4.mono hb3.size);have hC:=HF.out _ HGG.out HNB.out w4 (k:Int) (a:Int) sx n A la cA B lb cB (TIz.below hb24 HT2.out);rw [HFK.out] at hC;have HC:=Hi hC;have HW4:=Hi hw4;have HB4:=Hi (HB2.out.trans (hb24.mono HB2.out.size));clear e0 e1 e2 e3 e4 e5 z0 z1 z2 z3 z4 z5;obtain ⟨⟨e0,e1,e2,e3,e4,e5⟩,z0,z1,z2,z3,z4,z5⟩:=Aa.c6 (Ah.out.below hb24 Ah.out.lt);have hl4:w1.heap.size < w4.heap.size:=by have:=hb24.size;omega
   clear hb3 hb4 hb24 hC hw4 HC1;go_upto_region 6 with fail
   rw [show w3.alloc (.cells #[.slice none 0 0,.slice none 0 0,.slice none 0 0] 39)=w4 from HW4.out];go_wp2_with fail
   refine (show Calls Tryz.prog 11 #[aO (k:Int) (a:Int) sx n A la cA B lb cB] w4 _ from HC.out).mono ?_;rintro e w5 ⟨_,⟨A5,c5,rfl⟩,hb5⟩;exact V1d
  | ok c=>
   obtain ⟨vs,vp,vo,rfl,hN,hb3⟩:=h3;obtain ⟨As,cs,rfl⟩:=q07 hN.1;obtain ⟨Ap,cp,rfl⟩:=q07 hN.2.1;obtain ⟨Ao,co,rfl⟩:=q07 hN.2.2.1;obtain ⟨w4,hw4,hb4,-⟩:=aS w3 #[.slice As c.se.length cs,.slice Ap c.pu.length cp,.slice Ao c.ou.length co] 39;have hb24:=hb3.trans (hb4.mono hb3.size);have hC:=HF.out _ HGG.out HNB.out w4 (k:Int) (a:Int) sx n A la cA B lb cB (TIz.below hb24 HT2.out);obtain ⟨res,hres⟩:∃ res,fkB num M D R (bD x)=res:=⟨_,rfl⟩;rw [hres] at hC;have HC:=Hi hC;have HW4:=Hi hw4;have HB4:=Hi (HB2.out.trans (hb24.mono HB2.out.size));clear e0 e1 e2 e3 e4 e5 z0 z1 z2 z3 z4 z5;obtain ⟨⟨e0,e1,e2,e3,e4,e5⟩,z0,z1,z2,z3,z4,z5⟩:=Aa.c6 (Ah.out.below hb24 Ah.out.lt);have hl4:w1.heap.size < w4.heap.size:=by have:=hb24.size;omega
   clear hb3 hb4 hb24 hC hw4 hN HC1 hres HFK;go_upto_region 6 with fail
   rw [HW4.out];go_wp2_with fail
   refine (show Calls Tryz.prog 11 #[aO (k:Int) (a:Int) sx n A la cA B lb cB] w4 _ from HC.out).mono ?_;intro e w5 h5;clear e0 e1 e2 e3 e4 e5 z0 z1 z2 z3 z4 z5;cases res with
   | bad a5 er5=>
    obtain ⟨h0',⟨A5,c5,rfl⟩,hb5⟩:=h5;have hg0:((er5:Int)==0)=false:=V4;exact V1d
   | ok d=>
    obtain ⟨_,⟨A5,c5,rfl,_⟩,hb5⟩:=h5;exact V1d
 ·have her:er≠0:=q6Q hbad;have hz:((er:Int) != 0)=true:=V4;have HB1:=Hi hb;obtain ⟨w2,hw2,hb2,hX2,hs2⟩:=dw w1 #[.int .i64 0,.string ⟨#[]⟩,.int .u32 0,.int .i64 0,.slice none 0 0,.slice none 0 0];have HW2:=Hi hw2;have HB2:=Hi (HB1.out.trans (hb2.mono HB1.out.size));have HPP:=Hi (HPg.out s w2 a er hbad);clear hb hbad hw2 hb2 hX2 hs2;go_upto_region 3 with fail
  rw [HW2.out];go_wp2_with fail
  refine HPP.out.mono ?_;rintro e w3 ⟨⟨p,rfl⟩,hb3⟩;obtain ⟨w4,hw4,hb4,hX4,hs4⟩:=dw w3 #[.int .i64 0,.string ⟨#[]⟩,.int .u32 0,.int .i64 0,.slice none 0 0,.slice none 0 0];obtain ⟨w5,hw5,hb5,-⟩:=aS w4 #[.slice none 0 0,.slice none 0 0,.slice none 0 0] 39;have HW4:=Hi hw4;have HW5:=Hi hw5;have HB5:=Hi (HB2.out.trans ((hb3.trans ((hb4.trans (hb5.mono hb4.size)).mono hb3.size)).mono HB2.out.size));have HL5:=Hi (HLI.out w5);clear hb3 hw4 hb4 hX4 hs4 hw5 hb5;go_upto_region 4 with fail
  rw [HW4.out,HW5.out];go_wp2_with fail
  refine HL5.out.mono ?_;rintro e w6 ⟨rfl,hb6⟩;have HB6:=Hi (HB5.out.trans (hb6.mono HB5.out.size));clear hb6;go_wp2_with fail
  go_ret;exact ⟨rfl,HB6.out⟩
end
end Fl
namespace Fl
open Go Go.ChangeShapes Go.WideShapes Go.ChangeAt Go.RowKit Lx Args Pa Sh Go.Proofs.YtcgibpdjfgjldaaGreatDoor.Nm
theorem walkN(W:World)(s:ByteArray):Calls Tryz.prog 4 #[.string s] W fun e W'=>e = .returned (.bool true)/\Below W.heap.size W W':=
 walkNames HFc (Hi fun z hok hm w k a s n A la cA B lb cB hT=>rcheck z hok hm w k a s n A la cA B lb cB hT) (Hi fun s w a er h=>fpBad s w a er h) (Hi lives) HGc W s
end Fl
namespace Sh
open Go Go.ChangeShapes Go.WideShapes Go.ChangeAt Go.RowKit Lx Args Pa
section
variable {H : Type} {enc : TypeId × Value -> H} {w : World} {base : Nat} {spare : Nat -> Bool} {held : Bool}
end
end Sh
namespace Nm
open Go.ChangeShapes Go.WideShapes Go.ChangeAt Go.RowKit
theorem fit_one{H:Type}{P:Program}{t:TypeId}{ts:List TypeId}{d:DataW H}{ds:List (DataW H)}(h:(DataW.weightsEach P (t :: ts) (d :: ds)).all (·<=reachBytes)=true) :
  (d.weights P t).all (·<=reachBytes)=true/\(DataW.weightsEach P ts ds).all (·<=reachBytes)=true:=by
 simp only [DataW.weightsEach,List.all_append,Bool.and_eq_true] at h;exact h
theorem witRow{H:Type}{enc:TypeId×Value->H}{C:Checked}{os:Os}{f:FuncId}{fn:Func}{s:OpenSpec}{conds:List PathCond}{apart:Bool}{laid:List (String×DataW Unit)}(modest:Bool)(w0:World)(args:Array Value)(hos:w0.os=os)
  (hsh:(w0.forCall (fun _ _=>0) ⟨#[],args,[]⟩).Shaped C.prog)
  (hok:Input.okWideB C.prog (w0.forCall (fun _ _=>0) ⟨#[],args,[]⟩) f ⟨#[],args,[]⟩=true)
  (hrow:s.preRow enc C.prog fn conds apart laid (w0.forCall (fun _ _=>0) ⟨#[],args,[]⟩).memory args) :
  ∃ (w:World) (tape:Tape) (i:Input),w.os=os/\(w.forCall tape i).Shaped C.prog/\i.vars=[]/\Input.okWide C.prog (w.forCall tape i) .any w.heap.size f i /\
   s.preRow enc C.prog fn conds apart laid (w.forCall tape i).memory i.args/\({ modest:=modest }:Assume).holds C.prog (lone (Frame.enter C.prog f i.args .normal) [] (w.forCall tape i)):=
 ⟨w0,fun _ _=>0,⟨#[],args,[]⟩,hos,hsh,(Input.okWide_of_okWideB (base:=0) hok).1,(Input.okWide_of_okWideB hok).2,hrow,by
  simp only [Assume.holds];exact ⟨V3,V3,fun _=>Modest.zero,V3,V3⟩⟩
end Nm
end Go.Proofs.YtcgibpdjfgjldaaGreatDoor
