/- DERIVED. NmRef, FlOp, NmEx, NmIn. By an AI agent. -/
import Derived.Test.YtdhoemlomojfaaaGreatDoorW08
import Derived.Test.YtdhoemlomojfaaaGreatDoorW17
import Derived.Test.YtdhoemlomojfaaaGreatDoorW09
import Derived.Test.YtdhoemlomojfaaaGreatDoorW01
import Derived.Test.YtdhoemlomojfaaaGreatDoorW03
import Derived.Test.YtdhoemlomojfaaaGreatDoorW13
set_option maxRecDepth 100000
set_option maxHeartbeats 4000000
set_option linter.unusedVariables false
set_option linter.unusedSimpArgs false
namespace Go.Proofs.YtdhoemlomojfaaaGreatDoor.Nm
open Lx Pa Sh
structure RS where
 inn:List Bs
 var:List Bs
 loo:List Bs
 fn:List Bs
 many:List Nat
 bad:Option Int
 se:List Bs
 pu:List Bs
 ou:List (Bs×Bool)
def manyR:List Bs→List Nat→Bs→Int
 | f :: fs,m :: ms,s=>if f==s then (m:Int) else manyR fs ms s
 | _,_,_=>-1
def wordR(d:RS)(s:Bs):Bool:=d.inn.contains s || d.var.contains s || d.loo.contains s
def callR(fn:List Bs)(many:List Nat)(s:Bs)(p:Nat):Bool:=decide (manyR fn many s=(p:Int)) && fn.contains s
def nmR(d:RS)(s:Bs):Bool:=d.inn.contains s || d.var.contains s || d.loo.contains s || d.fn.contains s
/-! Both alike. -/
structure Rl(c:St)(d:RS):Prop where
 good:d.bad=none
 inn:∀ s,s∈d.inn↔∃ p,c.kn s=some (0,p)
 fn:∀ s,s∈d.fn↔∃ p,c.kn s=some (1,p)
 var:∀ s,s∈d.var↔∃ p,c.kn s=some (2,p)
 loo:∀ s,s∈d.loo↔∃ p,c.kn s=some (3,p)
 many:∀ s p,c.kn s=some (1,p)→manyR d.fn d.many s=(p:Int)
 len:d.many.length=d.fn.length
 sorts:Sorts c.kn
 se:d.se=c.se
 pu:d.pu=c.pu
 ou:d.ou=c.ou
theorem bool_eq_of_iff{a b:Bool}(h:a=true↔b=true):a=b:=by cases a <;> cases b <;> simp_all
theorem Rl.named{c:St}{d:RS}(h:Rl c d)(s:Bs):nmR d s=namedB c.kn s:=by
 refine bool_eq_of_iff ?_;unfold nmR namedB;simp only [Bool.or_eq_true,List.contains_iff_mem,h.inn,h.var,h.loo,h.fn,Option.isSome_iff_exists];constructor
 ·rintro (((⟨p,h⟩ | ⟨p,h⟩) | ⟨p,h⟩) | ⟨p,h⟩) <;> exact ⟨_,h⟩
 ·rintro ⟨⟨m,p⟩,hk⟩;have hm:=h.sorts s _ hk;simp only at hm;rcases m with _ | _ | _ | _ | m
  ·exact .inl (.inl (.inl ⟨p,hk⟩))
  ·exact .inr ⟨p,hk⟩
  ·exact .inl (.inl (.inr ⟨p,hk⟩))
  ·exact .inl (.inr ⟨p,hk⟩)
  ·omega
theorem Rl.word{c:St}{d:RS}(h:Rl c d)(s:Bs):wordR d s=wordB c.kn s:=by
 refine bool_eq_of_iff ?_;unfold wordR wordB;simp only [Bool.or_eq_true,List.contains_iff_mem,h.inn,h.var,h.loo];cases hk:c.kn s with
 | none=>simp
 | some m=>
  obtain ⟨m,p⟩:=m;have hm:=h.sorts s _ hk;simp only at hm;rcases m with _ | _ | _ | _ | m
  ·simp
  ·simp
  ·simp
  ·simp
  ·omega
theorem Rl.func{c:St}{d:RS}(h:Rl c d)(s:Bs):d.fn.contains s=isB c.kn s [1]:=by
 refine bool_eq_of_iff ?_;unfold isB;rw [List.contains_iff_mem,h.fn];cases hk:c.kn s with
 | none=>simp
 | some m=>obtain ⟨m,p⟩:=m;simp
theorem Rl.call{c:St}{d:RS}(h:Rl c d)(s:Bs)(p:Nat):callR d.fn d.many s p=callB c.kn s p:=by
 unfold callR callB;cases hk:c.kn s with
 | none=>
  have:d.fn.contains s=false:=by rw [h.func];unfold isB;rw [hk]
  rw [this];simp
 | some m=>
  obtain ⟨m,q⟩:=m;by_cases hm:m = 1
  ·subst hm;have h1:d.fn.contains s=true:=by rw [h.func];unfold isB;rw [hk];simp
   rw [h1,h.many s q hk];refine bool_eq_of_iff ?_;simp only [Bool.and_true,decide_eq_true_eq,decide_true,Bool.true_and];omega
  ·have h1:d.fn.contains s=false:=by rw [h.func];unfold isB;rw [hk];simp;omega
   rw [h1];simp [hm]
def Both(r:Rs)(d:RS):Prop:=match r with | .bad a=>d.bad=some a | .ok c=>Rl c d
mutual
def okP:Tz→Prop
 | .mk k _ _ _ _ l=>(k = 8∨k = 9∨k = 10∨k = 12→l.length≤1)∧(k = 11→okPs 2 l)
def okPs:Nat→List Tz→Prop
 | _,[]=>True
 | 0,x :: l=>okP x∧okPs 0 l
 | i+1,_ :: l=>okPs i l
end
theorem take_all{α:Type}{l:List α}{n:Nat}(h:l.length≤n):l.take n=l:=List.take_of_length_le h
mutual
theorem okP_gS{Q:Bs→Prop}:∀ {x:Tr},gS Q x→okP (embz x)
 | .mk k a s n ps l,h=>by
  unfold gS at h;unfold embz okP;rw [embs_len];obtain ⟨_,_,_,⟨h1,h2,_⟩ | ⟨h1,h2,h3⟩⟩:=h
  ·subst h1;exact ⟨fun _=>by omega,fun h=>by simp at h⟩
  ·subst h1;exact ⟨fun h=>by simp at h,fun _=>okP_gA h3⟩
theorem okP_gA{Q:Bs→Prop}:∀ {i:Nat} {l:List Tr},gA Q i l→okPs i (embs l)
 | _,[],_=>by unfold embs okPs;trivial
 | 0,x :: l,h=>by unfold gA at h;unfold embs okPs;exact ⟨okP_gS h.1,okP_gA h.2⟩
 | i+1,x :: l,h=>by unfold gA at h;unfold embs okPs;exact okP_gA h.2
end
theorem okP_gT{Q:Bs→Prop}{x:Tr}(h:gT Q x):okP (embz x):=by
 obtain ⟨k,a,s,n,ps,l⟩:=x;unfold gT at h;rcases h with h | ⟨_,⟨h1,_,h2,_⟩ | ⟨h1,_,_,y,rfl,_⟩ | ⟨h1,_,_,_,y,rfl,_⟩⟩
 ·exact okP_gS h
 ·unfold embz okP;exact ⟨fun _=>by rw [h2];simp [embs],fun h=>by omega⟩
 ·unfold embz okP;exact ⟨fun _=>by simp [embs],fun h=>by omega⟩
 ·unfold embz okP;exact ⟨fun _=>by simp [embs],fun h=>by omega⟩
theorem okPs_gT{Q:Bs→Prop}:∀ {l:List Tr},(∀ y∈l,gT Q y)→okPs 0 (embs l)
 | [],_=>by unfold embs okPs;trivial
 | x :: l,h=>by unfold embs okPs;exact ⟨okP_gT (h x (by simp)),okPs_gT fun y hy=>h y (by simp [hy])⟩
end Go.Proofs.YtdhoemlomojfaaaGreatDoor.Nm
namespace Go.Proofs.YtdhoemlomojfaaaGreatDoor.Fl
open Lx Pa Sh Go.Proofs.YtdhoemlomojfaaaGreatDoor.Nm
def opT:Tz→Tz
 | .mk k a s n ps l=>.mk (if k = 6 then 7 else k) a s n ps l
/-! Names of both. -/
def SmC(c d:St):Prop:=c.kn=d.kn∧c.en=d.en∧c.ou=d.ou
def SmS:Rs→Rs→Prop
 | .bad a,.bad b=>a=b
 | .ok c,.ok d=>SmC c d
 | _,_=>False
theorem SmS.bnd{r1 r2:Rs}{f1 f2:St→Rs}(h:SmS r1 r2)(hf:∀ c d,SmC c d→SmS (f1 c) (f2 d)):SmS (bndR r1 f1) (bndR r2 f2):=by
 cases r1 <;> cases r2
 ·exact hf _ _ h
 ·exact h.elim
 ·exact h.elim
 ·exact h
end Go.Proofs.YtdhoemlomojfaaaGreatDoor.Fl
namespace Go.Proofs.YtdhoemlomojfaaaGreatDoor.Nm
open Go Go.ChangeShapes Go.WideShapes Go.ChangeAt Go.RowKit Lx Args Pa Sh
structure IsN(w:World)(G:FuncId)(r:Value)(isN:Bs→Bool):Prop where
 enter:∀ (a:Value) (w:World),(callFunc G #[r,a]).run Tryz.prog w = .ok (.enter G #[r,a]) w
 call:∀ w',Below w.heap.size w w'→∀ s:Bs,s.length≤maxLen→Calls Tryz.prog G #[r,.string ⟨s.toArray⟩] w' (TellP w' (isN s))
theorem IsN.below{w w':World}{G:FuncId}{r:Value}{isN:Bs→Bool}(h:IsN w G r isN)(hb:Below w.heap.size w w'):IsN w' G r isN:=⟨h.enter,fun v hv=>h.call v (hb.trans (hv.mono hb.size))⟩
def exF(isN:Bs→Bool)(cal:Bs→Nat→Bool):Tz→Unit→Int ⊕ Unit
 | .mk k a s _ _ l,_=>if (k = 1∧isN s=false)∨(k = 5∧cal s l.length=false) then .inl a else .inr ()
def toS(o:Option Int):Int ⊕ Unit:=match o with | some a=>.inl a | none=>.inr ()
mutual
theorem fold_ex(isN:Bs→Bool)(cal:Bs→Nat→Bool):∀ z,foldT (exF isN cal) z ()=toS (exB isN cal z)
 | .mk k a s n ps l=>by
  rw [foldT_mk];unfold exB;by_cases h:(k = 1∧isN s=false)∨(k = 5∧cal s l.length=false)
  ·rw [if_pos h,show exF isN cal (.mk k a s n ps l) () = .inl a from if_pos h];rfl
  ·rw [if_neg h,show exF isN cal (.mk k a s n ps l) () = .inr () from if_neg h];exact fold_exs isN cal l
theorem fold_exs(isN:Bs→Bool)(cal:Bs→Nat→Bool):∀ l,foldTs (exF isN cal) l ()=toS (exBs isN cal l)
 | []=>by unfold foldTs exBs;rfl
 | x :: l=>by
  rw [foldTs_cons,fold_ex isN cal x];unfold exBs;cases exB isN cal x with
  | some a=>rfl
  | none=>exact fold_exs isN cal l
end
def ExP(w:World)(o:Option Int)(e:Ending)(w':World):Prop:=match o with | some a=>e=panW a∧Below w.heap.size w w' | none=>e = .returned (.tuple #[])∧Below w.heap.size w w'
theorem exprs1{wE:World}{g:Nat}{kn:Kn}{G:FuncId}{r:Value}{isN:Bs→Bool}{b1 b2:Nat}(hk:KnP wE g kn)(hI:IsN wE G r isN)(h1:wE.cell? ⟨b1,0,none⟩=some (.func (.func G) #[r] #[]))(h2:wE.cell? ⟨b2,0,none⟩=some (.pointer (some ⟨g,0,none⟩)))
  (w:World) (hb:Below wE.heap.size wE w) (k a:Int) (s:Bs) (n:Nat) (A:Option Addr) (la cA:Nat) (B:Option Addr) (lb cB:Nat) (hs:s.length≤maxLen) (hla:la≤maxLen) :
  Calls Tryz.prog 163 #[nzA k a s n A la cA B lb cB,.pointer (some ⟨b1,0,none⟩),.pointer (some ⟨b2,0,none⟩)] w (ExP w (if (k = 1∧isN s=false)∨(k = 5∧callB kn s la=false) then some a else none)):=by
 obtain ⟨wn,hwn,hbn,hXn,hsn⟩:=a_box w (nB k a s n A la cA B lb cB);have hbE:=hb.trans (hbn.mono hb.size);have HBX:=Hi fun v (hv:Below wE.heap.size wE v)=>And.intro ((hv.cell (World.block_lt_of_cell? wE _ h1)).trans h1) ((hv.cell (World.block_lt_of_cell? wE _ h2)).trans h2)
 have HK:=Hi fun v (hv:Below wE.heap.size wE v)=>isCalled v g kn (hk.below hv) s hs la
 have HN:=Hi fun v (hv:Below wE.heap.size wE v)=>hI.call v hv s hs
 have hen:=hI.enter;have HBE:=Hi hbE;have HWN:=Hi hwn;have HBN:=Hi hbn;have HXN:=Hi hXn;obtain ⟨⟨e0,e1,e2,e3,e4,e5⟩,z0,z1,z2,z3,z4,z5⟩:=Blk.c6 hXn;have hlam:la≤9223372036854775807:=hla;clear hk hI h1 h2 hb hbn hXn hwn hbE hsn hla;obtain ⟨res,hres⟩:∃ res,(if (k = 1∧isN s=false)∨(k = 5∧callB kn s la=false) then some a else none)=res:=⟨_,rfl⟩;rw [hres];have HRES:=Hi hres;clear hres;go_enter Tryz.func163,Tryz.ntmps163;by_cases hk1:k = 1
 ·subst hk1;go_wp2_with fail
  rw [HWN.out];have hdr:Below wn.heap.size wn wn.drew:=Below.drew (Below.refl _ _);obtain ⟨wd,hwd⟩:∃ v,wn.drew=v:=⟨_,rfl⟩;rw [hwd] at hdr;have HXd:=Hi (HXN.out.below hdr HXN.out.lt);have HBd:=Hi (HBE.out.trans (hdr.mono HBE.out.size));have HBW:=Hi (HBN.out.trans (hdr.mono HBN.out.size));clear hdr e0 e1 e2 e3 e4 e5 z0 z1 z2 z3 z4 z5;have hZ0:Below wd.heap.size wd wd:=Below.refl _ _;refine HT.wp_region (Z:=fun w'=>Below wd.heap.size wd w') (S:=fun _=>True) (st:=[]) (by kernel_rfl) ?_;rw [hwd];clear hwd;refine HT.tk 0 rfl (by intro v hSw;have hA:=HXd.out.below hSw HXd.out.lt;have E_:=Blk.c6 hA;obtain ⟨c1,c2⟩:=HBX.out v (HBd.out.trans (hSw.mono HBd.out.size));clear hSw hA;go_simp;try with_reducible rfl) hZ0 HT.tr ?_;refine HT.tk 1 rfl (by intro v hSw;have hA:=HXd.out.below hSw HXd.out.lt;have E_:=Blk.c6 hA;obtain ⟨c1,c2⟩:=HBX.out v (HBd.out.trans (hSw.mono HBd.out.size));clear hSw hA;go_simp;try with_reducible rfl) hZ0 HT.tr ?_;refine HT.tk 2 rfl (by intro v hSw;have hA:=HXd.out.below hSw HXd.out.lt;have E_:=Blk.c6 hA;obtain ⟨c1,c2⟩:=HBX.out v (HBd.out.trans (hSw.mono HBd.out.size));clear hSw hA;go_simp;try with_reducible rfl) hZ0 HT.tr ?_;refine HT.tk 3 rfl (by intro v hSw;have hA:=HXd.out.below hSw HXd.out.lt;have E_:=Blk.c6 hA;obtain ⟨c1,c2⟩:=HBX.out v (HBd.out.trans (hSw.mono HBd.out.size));clear hSw hA;go_simp;try with_reducible rfl) hZ0 HT.tr ?_;have HC:=Hi (HN.out wd HBd.out);refine HT.one (i:=4) (by kernel_rfl) rfl (fun K hK=>?_);go_simp;refine HC.out.mono ?_;rintro e w5 ⟨rfl,hb5⟩;(try dsimp only);refine hK.out _ _ hb5 trivial ?_;clear hK K;(try simp only [HT.pS]);refine HT.tm 5 rfl hb5 HT.tr ?_;have HR:=Hi (refuse w5 1 a s n A la cA B lb cB (!isN s));have HB5:=Hi (HBW.out.trans (hb5.mono HBW.out.size));obtain ⟨q,hq⟩:∃ q,isN s=q:=⟨_,rfl⟩;rw [hq] at HR ⊢;have HRES2:=Hi (show (if q=false then some a else none)=res by rw [←HRES.out,hq];simp);clear HC HN HK HBX hq HRES;cases q with
  | true=>
   refine HT.one (i:=6) (by kernel_rfl) rfl (fun K hK=>?_);go_simp;refine (show Calls Tryz.prog 137 #[nzA 1 a s n A la cA B lb cB,.bool false] w5 _ from HR.out).mono ?_;rintro e w6 ⟨rfl,hb6⟩;have HB6:=Hi (HB5.out.trans (hb6.mono HB5.out.size));have hz6:=hb5.trans (hb6.mono hb5.size);clear hb6;(try dsimp only);refine hK.out _ _ hz6 trivial ?_;clear hK K;(try simp only [HT.pS]);refine HT.done (by kernel_rfl) ?_;clear hb5 hz6;go_wp2_with fail
   first | go_end0 | skip
   all_goals (rw [←show none=res from HRES2.out];first | exact ⟨rfl,HB6.out⟩ | exact bodyPost_ret (results_none rfl _ _ _) rfl ⟨rfl,HB6.out⟩)
  | false=>
   refine HT.one (i:=6) (by kernel_rfl) rfl (fun K hK=>?_);go_simp;refine (show Calls Tryz.prog 137 #[nzA 1 a s n A la cA B lb cB,.bool true] w5 _ from HR.out).mono ?_;rintro e w6 ⟨rfl,hb6⟩;have HB6:=Hi (HB5.out.trans (hb6.mono HB5.out.size));clear hb6;rw [←show some a=res from HRES2.out];exact ⟨rfl,rfl,HB6.out⟩
 by_cases hk5:k = 5
 ·subst hk5;go_wp2_with fail
  rw [HWN.out];have hdr:Below wn.heap.size wn wn.drew:=Below.drew (Below.refl _ _);obtain ⟨wd,hwd⟩:∃ v,wn.drew=v:=⟨_,rfl⟩;rw [hwd] at hdr;have HXd:=Hi (HXN.out.below hdr HXN.out.lt);have HBd:=Hi (HBE.out.trans (hdr.mono HBE.out.size));have HBW:=Hi (HBN.out.trans (hdr.mono HBN.out.size));clear hdr e0 e1 e2 e3 e4 e5 z0 z1 z2 z3 z4 z5;have hZ0:Below wd.heap.size wd wd:=Below.refl _ _;refine HT.wp_region (Z:=fun w'=>Below wd.heap.size wd w') (S:=fun _=>True) (st:=[]) (by kernel_rfl) ?_;rw [hwd];clear hwd;refine HT.tk 0 rfl (by intro v hSw;have hA:=HXd.out.below hSw HXd.out.lt;have E_:=Blk.c6 hA;obtain ⟨c1,c2⟩:=HBX.out v (HBd.out.trans (hSw.mono HBd.out.size));clear hSw hA;go_simp;try with_reducible rfl) hZ0 HT.tr ?_;refine HT.tk 1 rfl (by intro v hSw;have hA:=HXd.out.below hSw HXd.out.lt;have E_:=Blk.c6 hA;obtain ⟨c1,c2⟩:=HBX.out v (HBd.out.trans (hSw.mono HBd.out.size));clear hSw hA;go_simp;try with_reducible rfl) hZ0 HT.tr ?_;refine HT.tk 2 rfl (by intro v hSw;have hA:=HXd.out.below hSw HXd.out.lt;have E_:=Blk.c6 hA;obtain ⟨c1,c2⟩:=HBX.out v (HBd.out.trans (hSw.mono HBd.out.size));clear hSw hA;go_simp;try with_reducible rfl) hZ0 HT.tr ?_;refine HT.tk 3 rfl (by intro v hSw;have hA:=HXd.out.below hSw HXd.out.lt;have E_:=Blk.c6 hA;obtain ⟨c1,c2⟩:=HBX.out v (HBd.out.trans (hSw.mono HBd.out.size));clear hSw hA;go_simp;try with_reducible rfl) hZ0 HT.tr ?_;refine HT.tk 4 rfl (by intro v hSw;have hA:=HXd.out.below hSw HXd.out.lt;have E_:=Blk.c6 hA;obtain ⟨c1,c2⟩:=HBX.out v (HBd.out.trans (hSw.mono HBd.out.size));clear hSw hA;go_simp;try with_reducible rfl) hZ0 HT.tr ?_;refine HT.tk 5 rfl (by intro v hSw;have hA:=HXd.out.below hSw HXd.out.lt;have E_:=Blk.c6 hA;obtain ⟨c1,c2⟩:=HBX.out v (HBd.out.trans (hSw.mono HBd.out.size));clear hSw hA;go_simp;try with_reducible rfl) hZ0 HT.tr ?_;refine HT.tk 6 rfl (by intro v hSw;have hA:=HXd.out.below hSw HXd.out.lt;have E_:=Blk.c6 hA;obtain ⟨c1,c2⟩:=HBX.out v (HBd.out.trans (hSw.mono HBd.out.size));clear hSw hA;go_simp;try with_reducible rfl) hZ0 HT.tr ?_;have HC:=Hi (HK.out wd HBd.out);refine HT.one (i:=7) (by kernel_rfl) rfl (fun K hK=>?_);go_simp;refine HC.out.mono ?_;rintro e w5 ⟨rfl,hb5⟩;(try dsimp only);refine hK.out _ _ hb5 trivial ?_;clear hK K;(try simp only [HT.pS]);refine HT.tm 8 rfl hb5 HT.tr ?_;have HR:=Hi (refuse w5 5 a s n A la cA B lb cB (!callB kn s la));have HB5:=Hi (HBW.out.trans (hb5.mono HBW.out.size));obtain ⟨q,hq⟩:∃ q,callB kn s la=q:=⟨_,rfl⟩;rw [hq] at HR ⊢;have HRES2:=Hi (show (if q=false then some a else none)=res by rw [←HRES.out,hq];simp);clear HC HN HK HBX hq HRES;cases q with
  | true=>
   refine HT.one (i:=9) (by kernel_rfl) rfl (fun K hK=>?_);go_simp;refine (show Calls Tryz.prog 137 #[nzA 5 a s n A la cA B lb cB,.bool false] w5 _ from HR.out).mono ?_;rintro e w6 ⟨rfl,hb6⟩;have HB6:=Hi (HB5.out.trans (hb6.mono HB5.out.size));have hz6:=hb5.trans (hb6.mono hb5.size);clear hb6;(try dsimp only);refine hK.out _ _ hz6 trivial ?_;clear hK K;(try simp only [HT.pS]);refine HT.done (by kernel_rfl) ?_;clear hb5 hz6;go_wp2_with fail
   first | go_end0 | skip
   all_goals (rw [←show none=res from HRES2.out];first | exact ⟨rfl,HB6.out⟩ | exact bodyPost_ret (results_none rfl _ _ _) rfl ⟨rfl,HB6.out⟩)
  | false=>
   refine HT.one (i:=9) (by kernel_rfl) rfl (fun K hK=>?_);go_simp;refine (show Calls Tryz.prog 137 #[nzA 5 a s n A la cA B lb cB,.bool true] w5 _ from HR.out).mono ?_;rintro e w6 ⟨rfl,hb6⟩;have HB6:=Hi (HB5.out.trans (hb6.mono HB5.out.size));clear hb6;rw [←show some a=res from HRES2.out];exact ⟨rfl,rfl,HB6.out⟩
 have i1:(k==1)=false:=by simp;omega
 have i5:(k==5)=false:=by simp;omega
 have HRES2:=Hi (show none=res by rw [←HRES.out,if_neg];rintro (⟨h,_⟩ | ⟨h,_⟩) <;> omega);clear HN HK HBX hk1 hk5 HRES;go_wp2_with fail
 rw [HWN.out]
 first | go_end0 | skip
 all_goals (rw [←HRES2.out];first | exact ⟨rfl,HBN.out⟩ | exact bodyPost_ret (results_none rfl _ _ _) rfl ⟨rfl,HBN.out⟩)
theorem exprs(w0 w:World)(g:Nat)(kn:Kn)(G:FuncId)(r:Value)(isN:Bs→Bool)(A:Option Addr)(cA:Nat)(l:List Tz)(css:List (List Value))(hb:Below w0.heap.size w0 w)(hL:Lies w0 A css.flatten)(hS:TsIz w0 l css)(hl:l.length≤maxLen)(hlz:lenzs l)(hk:KnP w g kn)(hI:IsN w G r isN) :
  Calls Tryz.prog 143 #[.pointer (some ⟨g,0,none⟩),.func (.func G) #[r] #[],.slice A l.length cA] w (ExP w (exBs isN (callB kn) l)):=by
 have hlm:l.length≤9223372036854775807:=hl;obtain ⟨wa,hwa⟩:∃ wa,w.alloc (.cells #[.pointer (some ⟨g,0,none⟩)] 104)=wa:=⟨_,rfl⟩;have hba:Below w.heap.size w wa:=by rw [←hwa];exact (Below.refl _ _).alloc (Nat.le_refl _) _
 have hXa:Blk wa w.heap.size 104 #[.pointer (some ⟨g,0,none⟩)]:=by rw [←hwa];exact Blk.new _ _ _
 have hsa:wa.heap.size=w.heap.size+1:=by rw [←hwa];simp
 obtain ⟨wE,hwE⟩:∃ wE,wa.alloc (.cells #[.func (.func G) #[r] #[]] 180)=wE:=⟨_,rfl⟩;have hbE:Below wa.heap.size wa wE:=by rw [←hwE];exact (Below.refl _ _).alloc (Nat.le_refl _) _
 have hXE:Blk wE wa.heap.size 180 #[.func (.func G) #[r] #[]]:=by rw [←hwE];exact Blk.new _ _ _
 have hbw:Below w.heap.size w wE:=hba.trans (hbE.mono hba.size);rw [hsa] at hXE;have h2:wE.cell? ⟨w.heap.size,0,none⟩=some (.pointer (some ⟨g,0,none⟩)):=(hXa.below hbE hXa.lt).cell 0;have h1:wE.cell? ⟨w.heap.size+1,0,none⟩=some (.func (.func G) #[r] #[]):=hXE.cell 0;have V:∀ lim,Vis w0 163 (.pointer (some ⟨w.heap.size+1,0,none⟩)) (.pointer (some ⟨w.heap.size,0,none⟩)) (exF isN (callB kn)) (fun _ v _=>Below wE.heap.size wE v) (fun _=>0) lim:=by
  intro lim;refine ⟨fun _ _ _ _=>Nat.zero_le _,fun _ _=>by kernel_rfl,fun _ _ _ _ h _=>h,fun _ _ _ _ h h'=>h.trans (h'.mono h.size),fun N v st z k a s n A la cA B lb cB hv hT hz _ hJ=>?_⟩;obtain ⟨k1,a1,s1,n1,ps,l1⟩:=z;obtain ⟨rfl,rfl,rfl,rfl,rfl,rfl,hl1,_⟩:=tIz_parts hT;refine (exprs1 (hk.below hbw) (hI.below hbw) h1 h2 v hJ k a s n A l1.length cA B ps.length cB (lenz_parts hz).1 hl1).mono fun e w' he=>?_
  by_cases h:(k = 1∧isN s=false)∨(k = 5∧callB kn s l1.length=false)
  ·rw [if_pos h] at he;rw [show exF isN (callB kn) (.mk k a s n ps l1) st = .inl a from if_pos h];exact ⟨he.1,Upd.of_below he.2 _⟩
  ·rw [if_neg h] at he;rw [show exF isN (callB kn) (.mk k a s n ps l1) st = .inr () from if_neg h];exact ⟨he.1,hJ.trans (he.2.mono hJ.size),Upd.of_below he.2 _⟩
 have HV:=Hi V;have HL:=Hi hL;have HS:=Hi hS;have HLZ:=Hi hlz;have HWA:=Hi hwa;have HWE:=Hi hwE;have HBW:=Hi hbw;have HB:=Hi hb;obtain ⟨res,hres⟩:∃ res,exBs isN (callB kn) l=res:=⟨_,rfl⟩;rw [hres];have HRES:=Hi hres;have hse:=hXE.lt;clear V hL hS hlz hwa hwE hbw hb h1 h2 hXE hXa hba hbE hk hI hl hres;go_enter Tryz.func143,Tryz.ntmps143;go_wp2_with fail
 rw [HWA.out,HWE.out]
 go_loopw [10] (fun vi wr=>∃ i:Nat,i≤l.length∧vi = .int .i64 (i:Int)∧Hid (Below wE.heap.size wE wr)∧Hid (exBs isN (callB kn) (l.drop i)=res)) (fun vi _=>l.length - (intOf vi).toNat)
 case atStart=>exact ⟨0,by omega,rfl,Hi (Below.refl _ _),HRES⟩
 case round=>
  obtain ⟨i,hi,rfl,HH,HQ⟩:=hrel;by_cases hlt:i < l.length
  ·have hil:(i:Int) < (l.length:Int):=by omega
   obtain ⟨y,hy⟩:∃ y,l[i]?=some y:=⟨_,List.getElem?_eq_getElem hlt⟩;have hbr:=HBW.out.trans (HH.out.mono HBW.out.size);have hb0:=HB.out.trans (hbr.mono HB.out.size);obtain ⟨b,o,k',a',s',n',A',la',cA',B',lb',cB',rfl,hTy,hbl,g0,g1,g2,g3,g4,g5⟩:=partz_b hb0 HL.out HS.out hy;obtain ⟨wb,hwb,hbb,hXb,hsb⟩:=a_box wr (nB k' a' s' n' A' la' cA' B' lb' cB');have hC:=each (HV.out (0+cntz y)) (SizeOf.sizeOf y+1) y (Nat.lt_succ_self _) (fun _=>False) wb () k' a' s' n' A' la' cA' B' lb' cB' (hb0.trans (hbb.mono hb0.size)) hTy (lenzs_at HLZ.out hy) (fun _ h=>h.elim) (Nat.le_refl _) (HH.out.trans (hbb.mono HH.out.size));rw [fold_ex] at hC;have hq:=HQ.out;rw [drop_at hy] at hq
   conv at hq=>lhs;unfold exBs
   obtain ⟨⟨e0,e1,e2,e3,e4,e5⟩,z0,z1,z2,z3,z4,z5⟩:=Blk.c6 hXb;have HC:=Hi hC;have HWB:=Hi hwb;have HQ2:=Hi hq;have HBB:=Hi (hbr.trans (hbb.mono hbr.size));clear hC hwb hbb hXb hq hTy hy hbr hb0;generalize exB isN (callB kn) y=r2 at HC HQ2;go_wp2_with fail
   rw [HWB.out];refine (show Calls Tryz.prog 162 #[nzA k' a' s' n' A' la' cA' B' lb' cB',.func (.func 163) #[] #[.pointer (some ⟨w.heap.size+1,0,none⟩),.pointer (some ⟨w.heap.size,0,none⟩)]] wb _ from HC.out).mono ?_;intro e w4 h4;cases r2 with
   | some a2=>
    obtain ⟨rfl,hu4⟩:=h4;have HEND:=Hi (show Below w.heap.size w w4 from HBB.out.trans ((hu4.below (Nat.le_refl _) fun _ h=>h.elim).mono HBB.out.size));have HQ3:=Hi (show some a2=res from HQ2.out);clear hu4;go_wp2_with fail
    rw [←HQ3.out];exact ⟨rfl,rfl,HEND.out⟩
   | none=>
    obtain ⟨rfl,hj4,hu4⟩:=h4;have HJ4:=Hi hj4;clear hj4 hu4;go_wp2_with fail
    go_roundw
    case rel=>exact ⟨i+1,by omega,by go_num,HJ4,HQ2⟩
    case measure=>simp [intOf];omega
  ·obtain rfl:i=l.length:=by omega
   have hq:=HQ.out;rw [List.drop_length] at hq
   conv at hq=>lhs;unfold exBs
   have HQ2:=Hi hq;have HEND:=Hi (HBW.out.trans (HH.out.mono HBW.out.size));clear hq;go_wp2_with fail
   first | go_end0 | skip
   all_goals (rw [←HQ2.out];first | exact ⟨rfl,HEND.out⟩ | exact bodyPost_ret (results_none rfl _ _ _) rfl ⟨rfl,HEND.out⟩)
abbrev In2(N:Nat→Prop)(w wn:World):Nat→Prop:=fun b=>(N b∧b < w.heap.size)∨wn.heap.size≤b
theorem in2_start{N:Nat→Prop}{lo:Nat}{w wn:World}{g:Nat}{c:St}{m:Nat}(h:CK N lo w g c m)(hb:Below w.heap.size w wn):CK (In2 N w wn) lo wn g c m:=(h.mono (N':=fun b=>N b∧b < w.heap.size) fun b h1 h2 _=>⟨h1,h2⟩).below hb |>.mono fun b h1 _ _=>.inl h1
theorem in2_new{N:Nat→Prop}{lo:Nat}{w wn wr w':World}{g:Nat}{c:St}{m:Nat}(h:CK (New (In2 N w wn) wr) lo w' g c m)(hs:wn.heap.size≤wr.heap.size):CK (In2 N w wn) lo w' g c m:=h.mono fun b h1 _ _=>h1.elim id fun h=>.inr (Nat.le_trans hs h)
theorem in2_out{N:Nat→Prop}{lo:Nat}{w wn w':World}{g:Nat}{c:St}{m:Nat}(h:CK (In2 N w wn) lo w' g c m)(hs:w.heap.size≤wn.heap.size):CK (New N w) lo w' g c m:=h.mono fun b h1 _ _=>h1.imp (fun h=>h.1) fun h=>Nat.le_trans hs h
theorem in2_upd{N:Nat→Prop}{w wn wr w':World}(h:Upd N w wr)(hu:Upd (In2 N w wn) wr w')(hs:w.heap.size≤wn.heap.size):Upd N w w':=upd_then h hu fun b hb hlt=>hb.elim (fun h=>h.1) fun h=>by omega
theorem in2_low{N:Nat→Prop}{w0 w wn:World}(hN:∀ b,N b→w0.heap.size≤b)(hs:w0.heap.size≤wn.heap.size):∀ b,In2 N w wn b→w0.heap.size≤b:=fun b hb=>hb.elim (fun h=>hN b h.1) fun h=>Nat.le_trans hs h
theorem below_low{X:Nat→Prop}{w0 w w':World}(hb:Below w0.heap.size w0 w)(hu:Upd X w w')(hX:∀ b,X b→w0.heap.size≤b):Below w0.heap.size w0 w':=hb.trans (hu.below hb.size hX)
theorem inputs(w0 w:World)(N:Nat→Prop)(lo g:Nat)(c:St)(m:Nat)(k a:Int)(s:Bs)(n:Nat)(A:Option Addr)(la cA:Nat)(B:Option Addr)(cB:Nat)(ps:List Bs)(hb:Below w0.heap.size w0 w)(hB:Lies w0 B (ps.map strV))(hps:ps.length≤maxLen)(hpl:∀ p∈ps,p.length≤maxLen)
  (hN:∀ b,N b→w0.heap.size≤b) (hc:CK N lo w g c m) (hm:m+ps.length≤1099511627776) :
  Calls Tryz.prog 112 #[.pointer (some ⟨g,0,none⟩),nzA k a s n A la cA B ps.length cB] w (StatP N lo w g (inB a ps c) (m+ps.length)):=by
 have hpm:ps.length≤9223372036854775807:=hps;obtain ⟨wn,hwn,hbn,hXn,hsn⟩:=a_box w (nB k a s n A la cA B ps.length cB);obtain ⟨⟨e0,e1,e2,e3,e4,e5⟩,z0,z1,z2,z3,z4,z5⟩:=Blk.c6 hXn;have HC0:=Hi (in2_start hc hbn);have HU0:=Hi (Upd.of_below hbn N);have HX0:=Hi hXn;have HW:=Hi hwn;have HB0:=Hi (hb.trans (hbn.mono hb.size));have HB:=Hi hB;have HPL:=Hi hpl;have HM:=Hi hm;have HN:=Hi (in2_low (w:=w) hN (Nat.le_trans hb.size hbn.size));have HSN:=Hi hsn;obtain ⟨res,hres⟩:∃ res,inB a ps c=res:=⟨_,rfl⟩;rw [hres];have HRES:=Hi hres;have hgl:=hXn.lt;clear hc hbn hXn hwn hb hB hpl hm hN hps hres hsn;go_enter Tryz.func112,Tryz.ntmps112;go_wp2_with fail
 rw [HW.out]
 go_loopw [9] (fun vi wr=>∃ (i:Nat) (ci:St),i≤ps.length∧vi = .int .i64 (i:Int)∧Hid (CK (In2 N w wn) lo wr g ci (m+i))∧Hid (Upd N w wr)∧Hid (Below w0.heap.size w0 wr)∧Hid (Blk wr w.heap.size 62 (nB k a s n A la cA B ps.length cB))∧Hid (inB a (ps.drop i) ci=res)∧Hid (wn.heap.size≤wr.heap.size)) (fun vi _=>ps.length - (intOf vi).toNat)
 case atStart=>exact ⟨0,c,by omega,rfl,HC0,HU0,HB0,HX0,HRES,Hi (Nat.le_refl _)⟩
 case round=>
  obtain ⟨i,ci,hi,rfl,HC,HU,HBE,HX,HQ,HSZ⟩:=hrel;by_cases hlt:i < ps.length
  ·obtain ⟨p,hp⟩:∃ p,ps[i]?=some p:=⟨_,List.getElem?_eq_getElem hlt⟩;have f1:(ps.map strV)[i]?=some (.string ⟨p.toArray⟩):=by rw [List.getElem?_map,hp];rfl
   obtain ⟨b,o,rfl,_,hc1⟩:=(HB.out.below HBE.out).at_ f1;have g1:=hc1 _ _ f1;have hpp:=HPL.out p (List.mem_of_getElem? hp);have hq:=HQ.out;rw [drop_at hp] at hq;unfold inB at hq;have hdr:Below wr.heap.size wr wr.drew:=Below.drew (Below.refl _ _);obtain ⟨wd,hwd⟩:∃ v,wr.drew=v:=⟨_,rfl⟩;rw [hwd] at hdr;have HXd:=Hi (HX.out.below hdr HX.out.lt);have HCd:=Hi (HC.out.below hdr);have HUd:=Hi (upd_then HU.out (Upd.of_below hdr fun _=>False) fun _ h=>h.elim);have HBd:=Hi (HBE.out.trans (hdr.mono HBE.out.size));have hsd:=hdr.size;have hZ0:Below wd.heap.size wd wd:=Below.refl _ _;have HNM:=Hi (isNamed wd g ci.kn HCd.out.knp p hpp);clear hc1 f1 hp HQ hdr;go_wp2_with fail
   clear g1;refine HT.wp_region (Z:=fun w'=>Below wd.heap.size wd w') (S:=fun _=>True) (st:=[]) (by kernel_rfl) ?_;rw [hwd];clear hwd;refine HT.tk 0 rfl (by intro v hSw;have hA:=HXd.out.below hSw HXd.out.lt;have E_:=Blk.c6 hA;clear hSw hA;go_simp;try with_reducible rfl) hZ0 HT.tr ?_;refine HT.tk 1 rfl (by intro v hSw;have hA:=HXd.out.below hSw HXd.out.lt;have E_:=Blk.c6 hA;clear hSw hA;go_simp;try with_reducible rfl) hZ0 HT.tr ?_;refine HT.tk 2 rfl (by intro v hSw;have hA:=HXd.out.below hSw HXd.out.lt;have E_:=Blk.c6 hA;clear hSw hA;go_simp;try with_reducible rfl) hZ0 HT.tr ?_;refine HT.one (i:=3) (by kernel_rfl) rfl (fun K hK=>?_);go_simp;refine HNM.out.mono ?_;rintro e w5 ⟨rfl,hb5⟩;(try dsimp only);refine hK.out _ _ hb5 trivial ?_;clear hK K;(try simp only [HT.pS]);have HR:=Hi (refuse w5 k a s n A la cA (some ⟨b,o,none⟩) ps.length cB (namedB ci.kn p));obtain ⟨q,hqn⟩:∃ q,namedB ci.kn p=q:=⟨_,rfl⟩;rw [hqn] at HR hq ⊢;have HQ:=Hi hq;clear HNM hqn hq;cases q with
   | true=>
    have HQ2:=Hi (show Rs.bad a=res from HQ.out);refine HT.one (i:=4) (by kernel_rfl) rfl (fun K hK=>?_);go_simp;refine (show Calls Tryz.prog 137 #[nzA k a s n A la cA (some ⟨b,o,none⟩) ps.length cB,.bool true] w5 _ from HR.out).mono ?_;rintro e w6 ⟨rfl,hb6⟩;have HEND:=Hi (upd_then (upd_then HUd.out (Upd.of_below hb5 fun _=>False) fun _ h=>h.elim) (Upd.of_below hb6 fun _=>False) fun _ h=>h.elim);clear hb6;have HEND2:=Hi (show StatP N lo w g res (m+ps.length) (panW a) w6 from by rw [←HQ2.out];exact ⟨rfl,HEND.out⟩);exact ⟨rfl,HEND2.out⟩
   | false=>
    refine HT.one (i:=4) (by kernel_rfl) rfl (fun K hK=>?_);go_simp;refine (show Calls Tryz.prog 137 #[nzA k a s n A la cA (some ⟨b,o,none⟩) ps.length cB,.bool false] w5 _ from HR.out).mono ?_;rintro e w6 ⟨rfl,hb6⟩;have hz6:=hb5.trans (hb6.mono hb5.size);have HC6:=Hi (HCd.out.below hz6);have HX6:=Hi (HXd.out.below hz6 HXd.out.lt);have HU6:=Hi (upd_then HUd.out (Upd.of_below hz6 fun _=>False) fun _ h=>h.elim);have HB6:=Hi (HBd.out.trans (hz6.mono HBd.out.size));have hs6:=hz6.size;clear hb6;(try dsimp only);refine hK.out _ _ hz6 trivial ?_;clear hK K;(try simp only [HT.pS]);refine HT.done (by kernel_rfl) ?_;clear hb5 hz6 HR;have HNA:=Hi (name_ (In2 N w wn) lo w6 g ci (m+i) HC6.out (by have:=HM.out;omega) p hpp 0 (by decide));go_wp2_with fail
    refine (show Calls Tryz.prog 139 #[.pointer (some ⟨g,0,none⟩),.string ⟨p.toArray⟩,.int .i64 0] w6 _ from HNA.out).mono ?_;rintro e w7 ⟨rfl,hc7,hu7⟩;have HC7:=Hi (in2_new hc7 (show wn.heap.size≤w6.heap.size by have:=HSZ.out;omega));have HU7:=Hi (in2_upd HU6.out hu7 (by have:=HSN.out;omega));have HB7:=Hi (below_low HB6.out hu7 HN.out);have HX7:=Hi (HX6.out.upd hu7 fun h=>by
     rcases h with h | h
     ·exact Nat.lt_irrefl _ h.2
     ·have:=HSN.out;omega)
    have HSZ7:=Hi (show wn.heap.size≤w7.heap.size by have:=hu7.size;have:=HSZ.out;omega);have HQ2:Hid (inB a (ps.drop (i+1)) { ci with kn:=ci.kn.put p (0,0),en:=ci.en ++ [p] }=res):=Hi HQ.out;clear hc7 hu7;go_wp2_with fail
    go_roundw
    case rel=>exact ⟨i+1,_,by omega,by go_num,HC7,HU7,HB7,HX7,HQ2,HSZ7⟩
    case measure=>simp [intOf];omega
  ·obtain rfl:i=ps.length:=by omega
   have hq:=HQ.out;rw [List.drop_length] at hq;unfold inB at hq;have HQ2:=Hi hq;have HEND:=Hi (show StatP N lo w g (.ok ci) (m+ps.length) (.returned (.tuple #[])) wr from ⟨rfl,in2_out HC.out (by have:=HSN.out;omega),HU.out⟩);clear hq;go_wp2_with fail
   first | go_end0 | skip
   all_goals (rw [←HQ2.out];first | exact HEND.out | exact bodyPost_ret (results_none rfl _ _ _) rfl HEND.out)
end Go.Proofs.YtdhoemlomojfaaaGreatDoor.Nm
