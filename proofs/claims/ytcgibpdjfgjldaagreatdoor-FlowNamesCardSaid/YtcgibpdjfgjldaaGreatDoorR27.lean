/- DERIVED. FlSpec, FlAr, FlEq, FlMap, FlRange, FlMem, Math, Word, Walks. By an AI agent. -/
import Derived.Test.YtcgibpdjfgjldaaGreatDoorR06
import Derived.Maps.RangeWalk
import Derived.Laws.BitsLemmas
import Derived.Laws.Bits64b
import Derived.Deep.QuietTactic
import Derived.Outline
set_option linter.unusedVariables false
set_option linter.unusedSimpArgs false
namespace Go.Proofs.YtcgibpdjfgjldaaGreatDoor
namespace Fl
open Lx Pa Sh Go.Proofs.YtcgibpdjfgjldaaGreatDoor.Nm
structure Wk where
 sec:Bool
 aN:Option (BitVec 32)
abbrev Kw:=Bs->Option Wk
def Kw.put(kn:Kw)(s:Bs)(m:Wk):Kw:=fun t=>if t=s then some m else kn t
def secB(kn:Kw)(s:Bs):Bool:=match kn s with | some m=>m.sec | none=>false
abbrev Lo:=Bs->Option (BitVec 32)
def bL(kn:Kw):Lo:=fun s=>match kn s with | some m=>m.aN | none=>none
inductive Rf(α:Type)
 | ok (x:α)
 | bad (a:Int) (er:Nat)
def aP{α β:Type}(r:Rf α)(f:α->Rf β):Rf β:=match r with | .ok x=>f x | .bad a e=>.bad a e
def sgU:List Bs:=[[126],[45]]
def sgB:List Bs:=[[43],[45],[38],[124],[94]]
def sgS:List Bs:=[[60,60],[62,62],[60,60,60]]
def fitB(lo:Lo)(k:Int)(s:Bs)(m:Nat):Bool:=
 if k = 0 then true else if k = 1 then (lo s).isSome else if k = 2 then decide (m = 1) && sgU.contains s else if k = 3 then decide (m = 2) && sgB.contains s else if k = 4 then decide (m = 2) && sgS.contains s else false
mutual
def strB(lo:Lo):Tz->Option (Int×Int×Bs)
 | .mk k a s _ _ l=>if fitB lo k s l.length=true then bM lo l else some (k,a,s)
def bM(lo:Lo):List Tz->Option (Int×Int×Bs)
 | []=>none
 | x :: l=>match strB lo x with | some e=>some e | none=>bM lo l
end
abbrev Num:=Lo->Tz->BitVec 32
def badB(kn:Kw)(e:Int×Int×Bs):Nat:=if e.1 = 1/\secB kn e.2.2=true then 130 else 120
def nuB(num:Num)(kn:Kw)(z:Tz):Rf (BitVec 32):=match strB (bL kn) z with | some e=>.bad e.2.1 (badB kn e) | none=>.ok (num (bL kn) z)
def nx(nd:Int):Int:=(nd+1+9223372036854775808) % 18446744073709551616 - 9223372036854775808
def seqB(f:Tz->Int->Rf (Bool×Int)):List Tz->Int->Rf (List Bool×Int)
 | [],nd=>.ok ([],nd)
 | x :: l,nd=>aP (f x nd) fun q=>aP (seqB f l q.2) fun r=>.ok (q.1 :: r.1,r.2)
abbrev Fu:=Bs->Option (List Bs×List Tz)
def parB:List Bs->List Bool->Kw
 | p :: ps,b :: bs=>fun t=>match parB ps bs t with | some m=>some m | none=>if t=p then some ⟨b,none⟩ else none
 | _,_=>fun _=>none
abbrev Sub:=Kw->Tz->Int->Rf (Bool×Int)
def calB(fu:Fu)(sub:Sub)(s:Bs)(q:List Bool×Int):Rf (Bool×Int):=
 if s=sel then .ok (q.1.any id,q.2) else match fu s with
  | none=>.ok (false,q.2)
  | some f=>aP (seqB (sub (parB f.1 q.1)) (f.2.take 1) q.2) fun r=>.ok (r.1.any id,r.2)
section
variable (num : Num) (M : Int) (fu : Fu)
mutual
def exT(deep:Bool)(sub:Sub)(kn:Kw):Tz->Int->Rf (Bool×Int)
 | .mk k a s _ _ l,nd=>
  if k = 5 then (if M < nx nd\/deep=true then .bad a 150 else aP (seqB (sub kn) l (nx nd)) fun q=>calB fu sub s q)
  else if k = 4 then exS deep sub kn l (nx nd)
  else aP (exTs deep sub kn l (nx nd)) fun q=>.ok (if k = 1 then secB kn s else if k = 2\/k = 3 then q.1.any id else false,q.2)
def exS(deep:Bool)(sub:Sub)(kn:Kw):List Tz->Int->Rf (Bool×Int)
 | [],nd=>.ok (false,nd)
 | x :: l,nd=>aP (match l with | []=>.ok 0 | y :: _=>nuB num kn y) fun _=>exT deep sub kn x nd
def exTs(deep:Bool)(sub:Sub)(kn:Kw):List Tz->Int->Rf (List Bool×Int)
 | [],nd=>.ok ([],nd)
 | x :: l,nd=>aP (exT deep sub kn x nd) fun q=>aP (exTs deep sub kn l q.2) fun r=>.ok (q.1 :: r.1,r.2)
end
def exC:Nat->Sub
 | 0=>exT num M fu true fun _ _ nd=>.ok (false,nd)
 | c+1=>exT num M fu false (exC c)
end
structure Sf where
 kn:Kw
 rd:Nat
 nd:Int
 ou:List (Bs×Bool×Bool)
def putsB(kn:Kw)(b:Bool):List Bs->Kw
 | []=>kn
 | s :: l=>putsB (kn.put s ⟨b,none⟩) b l
def cutB(kn kn':Kw):Kw:=fun t=>if (kn t).isSome=true then kn' t else none
def roB(R:Nat)(a:Int)(s:Bs)(body:Sf->Rf Sf):Nat->BitVec 32->Sf->Rf Sf
 | 0,_,c=>.ok c
 | n+1,i,c=>if R < c.rd+1 then .bad a 150 else aP (body { c with rd:=c.rd+1,kn:=c.kn.put s ⟨false,some i⟩ }) fun d=>roB R a s body n (i+1) { d with kn:=cutB c.kn d.kn }
section
variable (num : Num) (M : Int) (D R : Nat) (fu : Fu)
def n0B(kn:Kw):List Tz->Rf (BitVec 32)
 | x :: _=>nuB num kn x
 | []=>.ok 0
def n1B(kn:Kw):List Tz->Rf (BitVec 32)
 | _ :: y :: _=>nuB num kn y
 | _=>.ok 0
def hdB(l:List Tz)(nd:Int)(f:Tz->Int->Rf (Bool×Int)):Rf (Bool×Int):=match l with | []=>.ok (false,nd) | x :: _=>f x nd
mutual
def sfT:Tz->Sf->Rf Sf
 | .mk k a s _ ps l,c=>
  if k = 6\/k = 7 then .ok { c with kn:=putsB c.kn (decide (k = 6)) ps }
  else if k = 10 then aP (hdB l c.nd (exC num M fu D c.kn)) fun q=>.ok { c with nd:=q.2,kn:=c.kn.put s ⟨q.1,none⟩ }
  else if k = 8\/k = 9 then aP (hdB l c.nd (exC num M fu D c.kn)) fun q=>if q.1=true/\k = 9 then .bad a 130 else .ok { c with nd:=q.2,ou:=c.ou ++ [(s,q.1,decide (k = 9))] }
  else if k = 11 then
   aP (n0B num c.kn l) fun i=>aP (n1B num c.kn l) fun j=>roB R a s (fun d=>sfTs 2 l d) (j.toNat - i.toNat) i c
  else .ok c
def sfTs:Nat->List Tz->Sf->Rf Sf
 | _,[],c=>.ok c
 | 0,x :: l,c=>aP (sfT x c) fun d=>sfTs 0 l d
 | i+1,_ :: l,c=>sfTs i l c
end
end
mutual
def lnT:Tz->Fu->Fu
 | .mk k _ s _ ps l,fu=>if k = 12 then (fun t=>if t=s then some (ps,l) else fu t) else if k = 11 then lnTs 2 l fu else fu
def lnTs:Nat->List Tz->Fu->Fu
 | _,[],fu=>fu
 | 0,x :: l,fu=>lnTs 0 l (lnT x fu)
 | i+1,_ :: l,fu=>lnTs i l fu
end
def init:Sf:={ kn:=fun _=>none,rd:=0,nd:=0,ou:=[] }
def fuz(z:Tz):Fu:=lnTs 0 (lz z) fun _=>none
def flB(num:Num)(M:Int)(D R:Nat)(z:Tz):Rf Sf:=sfTs num M D R (fuz z) 0 (lz z) init
/-! Without secret inputs. -/
def NoK(kn:Kw):Prop:=∀ s m,kn s=some m->m.sec=false
theorem NoK.sec{kn:Kw}(h:NoK kn)(s:Bs):secB kn s=false:=by
 unfold secB;cases hk:kn s with
 | none=>rfl
 | some m=>exact h s m hk
theorem NoK.put{kn:Kw}(h:NoK kn)(s:Bs){m:Wk}(hm:m.sec=false):NoK (kn.put s m):=fun t m' ht=>by
 unfold Kw.put at ht;by_cases e:t=s
 ·rw [if_pos e] at ht;cases ht;exact hm
 ·rw [if_neg e] at ht;exact h t m' ht
def NoR{α:Type}(P:α->Prop):Rf α->Prop | .ok x=>P x | .bad _ e=>e≠130
theorem NoR.bnd{α β:Type}{P:α->Prop}{Q:β->Prop}{r:Rf α}{f:α->Rf β}(h:NoR P r)(hf:∀ x,P x->NoR Q (f x)):NoR Q (aP r f):=by
 cases r with
 | ok x=>exact hf x h
 | bad a e=>exact h
def AllNo(bs:List Bool):Prop:=∀ b∈bs,b=false
theorem AllNo.any{bs:List Bool}(h:AllNo bs):bs.any id=false:=by
 rw [List.any_eq_false];intro b hb;rw [h b hb];decide
section
variable {num : Num} {M : Int} {D R : Nat} {fu : Fu}
end
/-! Where more inputs are secret. -/
def LeK(k1 k2:Kw):Prop:=∀ s,(k1 s=none/\k2 s=none)\/∃ m1 m2,k1 s=some m1/\k2 s=some m2/\m1.aN=m2.aN/\(m1.sec=true->m2.sec=true)
theorem LeK.sec{k1 k2:Kw}(h:LeK k1 k2)(s:Bs)(hs:secB k1 s=true):secB k2 s=true:=by
 unfold secB at hs ⊢;rcases h s with ⟨h1,h2⟩ | ⟨m1,m2,h1,h2,_,h4⟩
 ·rw [h1] at hs;cases hs
 ·rw [h1] at hs;rw [h2];exact h4 hs
theorem LeK.put{k1 k2:Kw}(h:LeK k1 k2)(s:Bs){m1 m2:Wk}(hl:m1.aN=m2.aN)(hs:m1.sec=true->m2.sec=true):LeK (k1.put s m1) (k2.put s m2):=fun t=>by
 unfold Kw.put;by_cases e:t=s
 ·rw [if_pos e,if_pos e];exact .inr ⟨m1,m2,rfl,rfl,hl,hs⟩
 ·rw [if_neg e,if_neg e];exact h t
theorem LeK.refl(k:Kw):LeK k k:=fun s=>by
 cases hk:k s with
 | none=>exact .inl ⟨rfl,rfl⟩
 | some m=>exact .inr ⟨m,m,rfl,rfl,rfl,fun h=>h⟩
def LeR{α:Type}(P:α->α->Prop)(r1 r2:Rf α):Prop:=∀ y,r2 = .ok y->∃ x,r1 = .ok x/\P x y
theorem LeR.bnd{α β:Type}{P:α->α->Prop}{Q:β->β->Prop}{r1 r2:Rf α}{f1 f2:α->Rf β}(h:LeR P r1 r2)(hf:∀ x y,P x y->LeR Q (f1 x) (f2 y)):LeR Q (aP r1 f1) (aP r2 f2):=fun z hz=>by
 cases r2 with
 | bad a e=>cases hz
 | ok y=>
  obtain ⟨x,hx,hp⟩:=h y rfl;rw [hx];exact hf x y hp z hz
theorem LeR.ok{α:Type}{P:α->α->Prop}{x y:α}(h:P x y):LeR P (.ok x) (.ok y):=fun z hz=>by
 cases hz;exact ⟨x,rfl,h⟩
theorem LeR.bad{α:Type}{P:α->α->Prop}{r:Rf α}{a:Int}{e:Nat}:LeR P r (.bad a e):=fun z hz=>by cases hz
def LeB:List Bool->List Bool->Prop
 | [],[]=>True
 | b :: l,b' :: l'=>(b=true->b'=true)/\LeB l l'
 | _,_=>False
theorem LeB.any:∀ {l l':List Bool},LeB l l'->l.any id=true->l'.any id=true
 | [],[],_,h=>h
 | b :: l,b' :: l',h,ha=>by
  rw [List.any_cons,Bool.or_eq_true] at ha ⊢;rcases ha with ha | ha
  ·exact .inl (h.1 ha)
  ·exact .inr (LeB.any h.2 ha)
 | [],_ :: _,h,_=>h.elim
 | _ :: _,[],h,_=>h.elim
section
variable {num : Num} {M : Int} {D R : Nat} {fu : Fu}
def LeO:List (Bs×Bool×Bool)->List (Bs×Bool×Bool)->Prop
 | [],[]=>True
 | o :: l,o' :: l'=>(o.1=o'.1/\(o.2.1=true->o'.2.1=true))/\LeO l l'
 | _,_=>False
theorem LeO.app:∀ {l l':List (Bs×Bool×Bool)} {o o':Bs×Bool×Bool},LeO l l'->o.1=o'.1->(o.2.1=true->o'.2.1=true)->LeO (l ++ [o]) (l' ++ [o'])
 | [],[],o,o',_,h1,h2=>⟨⟨h1,h2⟩,trivial⟩
 | _ :: l,_ :: l',o,o',h,h1,h2=>⟨h.1,LeO.app h.2 h1 h2⟩
 | [],_ :: _,_,_,h,_,_=>h.elim
 | _ :: _,[],_,_,h,_,_=>h.elim
end
def arB(fu:Fu)(s:Bs)(m:Nat):Bool:=match fu s with | some f=>decide (m<=f.1.length) | none=>false
mutual
def okC(fu:Fu):Tz->Prop
 | .mk k _ s _ _ l=>(k = 5->s≠sel->arB fu s l.length=true)/\okCs fu l
def okCs(fu:Fu):List Tz->Prop
 | []=>True
 | x :: l=>okC fu x/\okCs fu l
end
theorem q4j{fu:Fu}:∀ (i:Nat) {l:List Tz},okCs fu l->okCs fu (l.take i)
 | 0,l,h=>by simp [okCs]
 | i+1,[],h=>by simp [okCs]
 | i+1,x :: l,h=>by
  unfold okCs at h;rw [List.take_succ_cons];unfold okCs;exact ⟨h.1,q4j i h.2⟩
theorem q4L{fu:Fu}:∀ {l:List Tz},okCs fu l->∀ {i:Nat} {x:Tz},l[i]?=some x->okC fu x
 | [],_,i,x,h=>Vc
 | y :: l,h,0,x,hx=>by
  have:y=x:=Vo;subst this;unfold okCs at h;exact h.1
 | y :: l,h,i+1,x,hx=>by
  unfold okCs at h;exact q4L h.2 Vo
theorem q4k{fu:Fu}{k a:Int}{s:Bs}{n:Nat}{ps:List Bs}{l:List Tz}(h:okC fu (.mk k a s n ps l)):(k = 5->s≠sel->arB fu s l.length=true)/\okCs fu l:=by unfold okC at h;exact h
mutual
def okS(fu:Fu):Tz->Prop
 | .mk k _ _ _ _ l=>(k = 12\/k = 10\/k = 8\/k = 9->okCs fu (l.take 1))/\(k = 11->okSs fu 2 l)
def okSs(fu:Fu):Nat->List Tz->Prop
 | _,[]=>True
 | 0,x :: l=>okS fu x/\okSs fu 0 l
 | i+1,_ :: l=>okSs fu i l
end
theorem q4l{fu:Fu}:∀ (i:Nat) {l:List Tz},okSs fu i l->okSs fu 0 (l.drop i)
 | 0,l,h=>h
 | i+1,[],h=>by simp [okSs]
 | i+1,x :: l,h=>by unfold okSs at h;rw [List.drop_succ_cons];exact q4l i h
theorem q6R{fu:Fu}:∀ {l:List Tz},okSs fu 0 l->∀ {i:Nat} {x:Tz},l[i]?=some x->okS fu x
 | [],_,i,x,h=>Vc
 | y :: l,h,0,x,hx=>by
  have:y=x:=Vo;subst this;unfold okSs at h;exact h.1
 | y :: l,h,i+1,x,hx=>by
  unfold okSs at h;exact q6R h.2 Vo
theorem q4m{fu:Fu}{k a:Int}{s:Bs}{n:Nat}{ps:List Bs}{l:List Tz}(h:okS fu (.mk k a s n ps l)):(k = 12\/k = 10\/k = 8\/k = 9->okCs fu (l.take 1))/\(k = 11->okSs fu 2 l):=by unfold okS at h;exact h
def Jf(kn:Kn)(fu:Fu):Prop:=∀ s p,s≠sel->kn s=some (1,p)->∃ f,fu s=some f/\f.1.length=p
def Kf(kn:Kn)(fu fu':Fu):Prop:=∀ s p,kn s=some (1,p)->fu' s=fu s
theorem Jf.put{kn:Kn}{fu:Fu}(h:Jf kn fu){s:Bs}{m:Nat×Nat}(hm:m.1≠1):Jf (kn.put s m) fu:=fun t p ht hk=>by
 unfold Kn.put at hk;by_cases e:t=s
 ·rw [if_pos e] at hk;cases hk;exact absurd rfl hm
 ·rw [if_neg e] at hk;exact h t p ht hk
theorem Jf.in_{a:Int}{fu:Fu}:∀ {ps:List Bs} {c d:St},inB a ps c = .ok d->Jf c.kn fu->Jf d.kn fu
 | [],c,d,h,hj=>by unfold inB at h;cases h;exact hj
 | s :: l,c,d,h,hj=>by
  unfold inB at h;by_cases hb:aQ c.kn s=true
  ·exact V07
  ·rw [if_neg hb] at h;exact Jf.in_ h (show Jf (c.kn.put s (0,0)) fu from hj.put V2)
theorem Jf.cu{kn:Kn}{fu:Fu}(h:Jf kn fu)(l:List Bs):Jf (kn.cu l) fu:=fun t p ht hk=>by
 unfold Kn.cu at hk;by_cases e:t∈l
 ·rw [if_pos e] at hk;cases hk
 ·rw [if_neg e] at hk;exact h t p ht hk
theorem Kf.refl(kn:Kn)(fu:Fu):Kf kn fu fu:=fun _ _ _=>rfl
theorem Kf.trans{c d:St}{f1 f2 f3:Fu}(h:Kf c.kn f1 f2)(he:Ext c d)(h':Kf d.kn f2 f3):Kf c.kn f1 f3:=fun s p hs=>(h' s p (he.kn s _ hs)).trans (h s p hs)
mutual
theorem ln_ok:∀ {z:Tz} {c d:St} {fu:Fu},stB z c = .ok d->AQ c.kn->Jf c.kn fu->Jf d.kn (lnT z fu)/\Kf c.kn fu (lnT z fu)
 | .mk k a s n ps l,c,d,fu,h,hs,hj=>by
  unfold stB at h;unfold lnT;by_cases h6:k = 6
  ·rw [if_pos h6] at h;exact V3e
  rw [if_neg h6] at h;by_cases h7:k = 7
  ·rw [if_pos h7] at h;exact V3e
  rw [if_neg h7] at h;by_cases h12:k = 12
  ·rw [if_pos h12] at h;rw [if_pos h12];by_cases hb:aQ c.kn s=true
   ·exact V07
   rw [if_neg hb] at h;by_cases hp:paB c.kn s [] ps=false
   ·rw [if_pos hp] at h;cases h
   rw [if_neg hp] at h;obtain ⟨_,h2⟩:=q1m h;cases h2;have hn:=q0y hb;refine ⟨fun t p ht hk=>?_,fun t p hk=>?_⟩
   ·have hk':(if t=s then some (1,ps.length) else c.kn t)=some (1,p):=hk;dsimp only;by_cases e:t=s
    ·rw [if_pos e] at hk' ⊢;cases hk';exact ⟨_,rfl,rfl⟩
    ·rw [if_neg e] at hk' ⊢;exact hj t p ht hk'
   ·dsimp only;rw [if_neg (fun e=>by subst e;rw [hn] at hk;cases hk)]
  rw [if_neg h12] at h;rw [if_neg h12];by_cases h10:k = 10
  ·rw [if_pos h10] at h;rw [if_neg V0];obtain ⟨_,h2⟩:=q1m h;by_cases hb:isB c.kn s [0,1,3]=true
   ·exact VP
   rw [if_neg hb] at h2;by_cases hv:isB c.kn s [2]=true
   ·rw [if_pos hv] at h2;cases h2;exact ⟨hj,Kf.refl _ _⟩
   rw [if_neg hv] at h2;cases h2;exact ⟨show Jf (c.kn.put s (2,0)) fu from hj.put V2,Kf.refl _ _⟩
  rw [if_neg h10] at h;by_cases h8:k = 8\/k = 9
  ·rw [if_pos h8] at h;rw [if_neg V0];obtain ⟨_,h2⟩:=q1m h;by_cases hb:(c.ou.map (·.1)).contains s=true
   ·exact VP
   rw [if_neg hb] at h2;cases h2;exact ⟨hj,Kf.refl _ _⟩
  rw [if_neg h8] at h;by_cases h11:k = 11
  ·rw [if_pos h11] at h;rw [if_pos h11];obtain ⟨_,h2⟩:=q1m h;by_cases hb:aQ c.kn s=true
   ·exact VP
   rw [if_neg hb] at h2;obtain ⟨c1,h3,h4⟩:=q2l h2;cases h4;obtain ⟨g1,g2⟩:=q5i h3 (show AQ (c.kn.put s (3,0)) from hs.put V2) (show Jf (c.kn.put s (3,0)) fu from hj.put V2);refine ⟨show Jf (c1.kn.cu _) _ from g1.cu _,fun t p hk=>g2 t p ?_⟩;show (if t=s then some (3,0) else c.kn t)=_;rw [if_neg (fun e=>by subst e;rw [q0y hb] at hk;cases hk)];exact hk
  rw [if_neg h11] at h;rw [if_neg h11];cases h;exact ⟨hj,Kf.refl _ _⟩
theorem q5i:∀ {i:Nat} {l:List Tz} {c d:St} {fu:Fu},cO i l c = .ok d->AQ c.kn->Jf c.kn fu->Jf d.kn (lnTs i l fu)/\Kf c.kn fu (lnTs i l fu)
 | i,[],c,d,fu,h,hs,hj=>by
  rw [q2r] at h;cases h;cases i <;> (unfold lnTs;exact ⟨hj,Kf.refl _ _⟩)
 | 0,x :: l,c,d,fu,h,hs,hj=>by
  rw [q1s] at h;obtain ⟨c1,h1,h2⟩:=q2l h;obtain ⟨g1,g2⟩:=ln_ok h1 hs hj;obtain ⟨x1,x2⟩:=q3l h1 hs;obtain ⟨g3,g4⟩:=q5i h2 x2 g1;unfold lnTs;exact ⟨g3,g2.trans x1 g4⟩
 | i+1,x :: l,c,d,fu,h,hs,hj=>by
  unfold cO at h;unfold lnTs;exact q5i h hs hj
end
def Arf(kn:Kn)(fu:Fu):Prop:=∀ s p,s≠sel->kn s=some (1,p)->arB fu s p=true
theorem call_ar{kn:Kn}{fu:Fu}(h:Arf kn fu){s:Bs}{p:Nat}(hs:s≠sel)(hc:¬ aR kn s p=false):arB fu s p=true:=by
 unfold aR at hc;cases hk:kn s with
 | none=>rw [hk] at hc;exact absurd rfl hc
 | some m=>
  rw [hk] at hc;obtain ⟨m1,m2⟩:=m;simp at hc;obtain ⟨rfl,rfl⟩:=hc;exact h s _ hs hk
mutual
theorem ex_ok{isN:Bs->Bool}{kn:Kn}{fu:Fu}(h:Arf kn fu):∀ (z:Tz),exB isN (aR kn) z=none->okC fu z
 | .mk k a s n ps l,he=>by
  unfold exB at he;unfold okC;by_cases hc:(k = 1/\isN s=false)\/(k = 5/\aR kn s l.length=false)
  ·rw [if_pos hc] at he;cases he
  ·rw [if_neg hc] at he;exact ⟨fun hk hs=>call_ar h hs fun hh=>hc (.inr ⟨hk,hh⟩),q4n h l he⟩
theorem q4n{isN:Bs->Bool}{kn:Kn}{fu:Fu}(h:Arf kn fu):∀ (l:List Tz),aB isN (aR kn) l=none->okCs fu l
 | [],he=>by unfold okCs;trivial
 | x :: l,he=>by
  unfold aB at he;unfold okCs;cases hx:exB isN (aR kn) x with
  | some a=>rw [hx] at he;cases he
  | none=>rw [hx] at he;exact ⟨ex_ok h x hx,q4n h l he⟩
end
theorem Arf.ext{c d:St}{fu:Fu}(h:Arf d.kn fu)(he:Ext c d):Arf c.kn fu:=fun s p hs hk=>h s p hs (he.kn s _ hk)
theorem dels_fn{c d:St}(h:Ext c d){n:Nat}(hn:n=c.en.length){s:Bs}{p:Nat}(hk:d.kn s=some (1,p)):d.kn.cu (d.en.drop n) s=some (1,p):=by
 subst hn;obtain ⟨e,h1,h2,_⟩:=h.en;have hd:d.en.drop c.en.length=e:=by rw [h1];simp
 rw [hd];unfold Kn.cu;rw [if_neg (fun hm=>by
  obtain ⟨_,m,h3,h4⟩:=h2 s hm;rw [hk] at h3;cases h3;exact h4 rfl)]
 exact hk
mutual
theorem st_ok{fu:Fu}:∀ {z:Tz} {c d:St},stB z c = .ok d->AQ c.kn->Arf d.kn fu->okS fu z
 | .mk k a s n ps l,c,d,h,hs,hj=>by
  have hx:=(q3l h hs).1;unfold stB at h;unfold okS;by_cases h6:k = 6
  ·exact ⟨fun h=>V0,fun h=>V0⟩
  rw [if_neg h6] at h;by_cases h7:k = 7
  ·exact ⟨fun h=>V0,fun h=>V0⟩
  rw [if_neg h7] at h;by_cases h12:k = 12
  ·rw [if_pos h12] at h;by_cases hb:aQ c.kn s=true
   ·exact V07
   rw [if_neg hb] at h;by_cases hp:paB c.kn s [] ps=false
   ·rw [if_pos hp] at h;cases h
   rw [if_neg hp] at h;exact ⟨fun _=>q4n (hj.ext hx) _ (q1m h).1,fun h=>V0⟩
  rw [if_neg h12] at h;by_cases h10:k = 10
  ·rw [if_pos h10] at h;exact ⟨fun _=>q4n (hj.ext hx) _ (q1m h).1,fun h=>V0⟩
  rw [if_neg h10] at h;by_cases h8:k = 8\/k = 9
  ·rw [if_pos h8] at h;exact ⟨fun _=>q4n (hj.ext hx) _ (q1m h).1,fun h=>V0⟩
  rw [if_neg h8] at h;by_cases h11:k = 11
  ·rw [if_pos h11] at h;obtain ⟨_,h2⟩:=q1m h;by_cases hb:aQ c.kn s=true
   ·exact VP
   rw [if_neg hb] at h2;obtain ⟨c1,h3,h4⟩:=q2l h2;have h5:=(q1f h3 (show AQ (c.kn.put s (3,0)) from hs.put V2)).1;have h0:=(Ext.new (d:={ c with kn:=c.kn.put s (3,0),en:=c.en ++ [s] }) (q0y hb) V2 rfl rfl).trans h5;refine ⟨fun h=>V0,fun _=>q5j h3 (show AQ (c.kn.put s (3,0)) from hs.put V2) fun t p ht hk=>?_⟩;cases h4;exact hj t p ht (dels_fn h0 rfl hk)
  exact ⟨fun h=>V0,fun h=>V0⟩
theorem q5j{fu:Fu}:∀ {i:Nat} {l:List Tz} {c d:St},cO i l c = .ok d->AQ c.kn->Arf d.kn fu->okSs fu i l
 | i,[],c,d,h,hs,hj=>by cases i <;> (unfold okSs;trivial)
 | 0,x :: l,c,d,h,hs,hj=>by
  rw [q1s] at h;obtain ⟨c1,h1,h2⟩:=q2l h;obtain ⟨x1,x2⟩:=q3l h1 hs;have x3:=(q1f h2 x2).1;unfold okSs;exact ⟨st_ok h1 hs (hj.ext x3),q5j h2 x2 hj⟩
 | i+1,x :: l,c,d,h,hs,hj=>by
  unfold cO at h;unfold okSs;exact q5j h hs hj
end
def okF(fu ff:Fu):Prop:=∀ s f,ff s=some f->okCs fu (f.2.take 1)
mutual
theorem lnF{fu:Fu}:∀ (z:Tz) {ff:Fu},okS fu z->okF fu ff->okF fu (lnT z ff)
 | .mk k a s n ps l,ff,h,hf=>by
  obtain ⟨h1,h2⟩:=q4m h;unfold lnT;by_cases h12:k = 12
  ·rw [if_pos h12];intro t f ht;dsimp only at ht;by_cases e:t=s
   ·rw [if_pos e] at ht;cases ht;exact h1 (.inl h12)
   ·rw [if_neg e] at ht;exact hf t f ht
  rw [if_neg h12];by_cases h11:k = 11
  ·rw [if_pos h11];exact lnFs 2 l (h2 h11) hf
  ·rw [if_neg h11];exact hf
theorem lnFs{fu:Fu}:∀ (i:Nat) (l:List Tz) {ff:Fu},okSs fu i l->okF fu ff->okF fu (lnTs i l ff)
 | i,[],ff,h,hf=>by cases i <;> (unfold lnTs;exact hf)
 | 0,x :: l,ff,h,hf=>by
  unfold okSs at h;unfold lnTs;exact lnFs 0 l h.2 (lnF x h.1 hf)
 | i+1,x :: l,ff,h,hf=>by
  unfold okSs at h;unfold lnTs;exact lnFs i l h hf
end
theorem ck_ar{z:Tz}{d:St}(h:ckB z = .ok d):okSs (fuz z) 0 (lz z)/\okF (fuz z) (fuz z):=by
 have hs:AQ Nm.init.kn:=fun s m hm=>by
  have hm':(if s=sel then some (1,3) else none)=some m:=hm;by_cases e:s=sel
  ·rw [if_pos e] at hm';cases hm';decide
  ·rw [if_neg e] at hm';cases hm'
 have hj:Jf Nm.init.kn (fun _=>none):=fun s p ht hk=>by
  have hm':(if s=sel then some (1,3) else none)=some (1,p):=hk;rw [if_neg ht] at hm';cases hm'
 obtain ⟨g1,_⟩:=q5i (i:=0) (l:=lz z) (fu:=fun _=>none) h hs hj;have ha:Arf d.kn (fuz z):=fun s p ht hk=>by
  obtain ⟨f,h1,h2⟩:=g1 s p ht hk;unfold arB fuz;rw [h1];simp [h2]
 have h1:=q5j (i:=0) (l:=lz z) h hs ha;exact ⟨h1,lnFs 0 (lz z) h1 fun s f hf=>by cases hf⟩
def Dm(k1 k2:Kw):Prop:=∀ s,(k1 s).isSome=true->(k2 s).isSome=true
section
variable (num : Num) (M : Int) (fu : Fu)
def calR(c:Nat)(kn:Kw)(a:Int)(s:Bs)(l:List Tz)(nd:Int):Rf (Bool×Int):=
 match c with
 | 0=>.bad a 150
 | c+1=>if M < nd then .bad a 150 else aP (seqB (exC num M fu c kn) l nd) fun q=>calB fu (exC num M fu c) s q
def shR(c:Nat)(kn:Kw)(l:List Tz)(nd:Int):Rf (Bool×Int):=
 match bM (bL kn) ((l.drop 1).take 1) with
 | some e=>.bad e.2.1 (badB kn e)
 | none=>aP (seqB (exC num M fu c kn) (l.take 1) nd) fun q=>.ok (q.1.any id,q.2)
end
section
variable {num : Num} {M : Int} {fu : Fu}
theorem q5k(f:Tz->Int->Rf (Bool×Int))(nd:Int):seqB f [] nd = .ok ([],nd):=rfl
theorem q24(f:Tz->Int->Rf (Bool×Int))(x:Tz)(l:List Tz)(nd:Int):seqB f (x :: l) nd=aP (f x nd) fun q=>aP (seqB f l q.2) fun r=>.ok (q.1 :: r.1,r.2):=rfl
theorem q3E{deep:Bool}{sub:Sub}{kn:Kw}:∀ (l:List Tz) (nd:Int),exTs num M fu deep sub kn l nd=seqB (exT num M fu deep sub kn) l nd
 | [],nd=>by unfold exTs;rfl
 | x :: l,nd=>by
  conv=>lhs;unfold exTs
  rw [q24]
  congr 1
  funext q
  rw [q3E l q.2]
theorem q1d{α β γ:Type}(r:Rf α)(f:α->Rf β)(g:β->Rf γ):aP (aP r f) g=aP r fun x=>aP (f x) g:=by
 cases r <;> rfl
theorem q4M(f:Tz->Int->Rf (Bool×Int))(x:Tz)(nd:Int):aP (seqB f [x] nd) (fun q=>.ok (q.1.any id,q.2))=f x nd:=by
 rw [q24,q1d];cases f x nd with
 | bad a e=>rfl
 | ok q=>
  show Rf.ok (([q.1]:List Bool).any id,q.2)=_;simp
theorem q8H{deep:Bool}{sub:Sub}{kn:Kw}(l:List Tz)(nd:Int):exS num M fu deep sub kn l nd=match bM (bL kn) ((l.drop 1).take 1) with
 | some e=>.bad e.2.1 (badB kn e)
 | none=>aP (seqB (exT num M fu deep sub kn) (l.take 1) nd) fun q=>.ok (q.1.any id,q.2):=by
 match l with
 | []=>unfold exS;rfl
 | [x]=>
  unfold exS;show exT num M fu deep sub kn x nd=aP (seqB (exT num M fu deep sub kn) [x] nd) fun q=>.ok (q.1.any id,q.2)
  rw [q4M]
 | x :: y :: l=>
  unfold exS;show aP (nuB num kn y) (fun _=>exT num M fu deep sub kn x nd)=match bM (bL kn) [y] with
   | some e=>.bad e.2.1 (badB kn e)
   | none=>aP (seqB (exT num M fu deep sub kn) [x] nd) fun q=>.ok (q.1.any id,q.2)
  rw [q4M];unfold nuB;have e:bM (bL kn) [y]=strB (bL kn) y:=by
   unfold bM;cases strB (bL kn) y with
   | some e=>rfl
   | none=>unfold bM;rfl
  rw [e];cases strB (bL kn) y <;> rfl
theorem exC_0:exC num M fu 0=exT num M fu true fun _ _ nd=>.ok (false,nd):=by unfold exC;rfl
theorem exC_s(c:Nat):exC num M fu (c+1)=exT num M fu false (exC num M fu c):=by conv=>lhs;unfold exC
theorem exC_mk(c:Nat)(kn:Kw)(k a:Int)(s:Bs)(n:Nat)(ps:List Bs)(l:List Tz)(nd:Int):exC num M fu c kn (.mk k a s n ps l) nd =
  if k = 5 then calR num M fu c kn a s l (nx nd) else if k = 4 then shR num M fu c kn l (nx nd)
  else aP (seqB (exC num M fu c kn) l (nx nd)) fun q=>.ok (if k = 1 then secB kn s else if k = 2\/k = 3 then q.1.any id else false,q.2):=by
 unfold shR calR;cases c with
 | zero=>
  rw [exC_0]
  conv=>lhs;unfold exT
  rw [q8H,q3E];simp only [or_true,if_true]
 | succ c=>
  rw [exC_s]
  conv=>lhs;unfold exT
  rw [q8H,q3E];simp only [Bool.false_eq_true,or_false]
theorem q5l:∀ (ps:List Bs) (bs:List Bool),parB ps bs=parB (ps.take bs.length) bs
 | [],bs=>V3
 | p :: ps,[]=>by simp [parB]
 | p :: ps,b :: bs=>by
  rw [List.length_cons,List.take_succ_cons];unfold parB;rw [q5l ps bs]
theorem q5m:∀ (ps:List Bs) (bs:List Bool) (p:Bs) (b:Bool),ps.length=bs.length->parB (ps ++ [p]) (bs ++ [b])=(parB ps bs).put p ⟨b,none⟩
 | [],[],p,b,_=>by
  funext t
  show (match (parB [] [] t:Option Wk) with | some m=>some m | none=>if t=p then some ⟨b,none⟩ else none)=if t=p then some ⟨b,none⟩ else parB [] [] t
  unfold parB;rfl
 | q :: ps,c :: bs,p,b,h=>by
  funext t
  have ih:=congrFun (q5m ps bs p b Va) t;show (match parB (ps ++ [p]) (bs ++ [b]) t with | some m=>some m | none=>if t=q then some ⟨c,none⟩ else none)=if t=p then some ⟨b,none⟩ else parB (q :: ps) (c :: bs) t
  rw [ih];unfold Kw.put;by_cases e:t=p
  ·rw [if_pos e,if_pos e]
  ·rw [if_neg e,if_neg e];rfl
 | [],_ :: _,_,_,h=>Vc
 | _ :: _,[],_,_,h=>Vc
end
end Fl
namespace Fl
open Go Go.ChangeShapes Go.WideShapes Go.ChangeAt Go.RowKit Lx Args Pa Sh Go.Proofs.YtcgibpdjfgjldaaGreatDoor.Nm
structure Cod(α:Type) where
 enc:α->Value
 dat:α->DataW Unit
 rd:Value->Option (DataW Unit×List MemPlace)
 rd_enc:∀ a,rd (enc a)=some (dat a,[])
 inv:∀ v a ps,rd v=some (dat a,ps)->v=enc a
def MpG{α:Type}(c:Cod α)(w:World)(b n:Nat)(kn:Bs->Option α):Prop:=
 ∃ D:DataW Unit,w.ownsMap Tryz.prog 9 c.rd b n D/\∀ s:Bs,s.length<=maxLen->Maps.has D (.string s)=(kn s).isSome/\∀ m,kn s=some m->∀ z,D.atKey (.string s) z=c.dat m
section
variable {α : Type} {c : Cod α} {w w' : World} {b n : Nat} {kn : Bs -> Option α} {s : Bs} {T E : TypeId}
theorem MpG.lt(h:MpG c w b n kn):b < w.heap.size:=by obtain ⟨D,h1,_⟩:=h;exact h1.lt
theorem MpG.heap(h:MpG c w b n kn)(e:w'.heap[b]?=w.heap[b]?):MpG c w' b n kn:=by
 obtain ⟨D,h1,h2⟩:=h;exact ⟨D,q3n h1 e,h2⟩
theorem MpG.upd{X:Nat->Prop}(h:MpG c w b n kn)(hu:Upd X w w')(hx:¬ X b):MpG c w' b n kn:=h.heap (hu.block b h.lt hx)
theorem MpG.mono(h:MpG c w b n kn){m:Nat}(hm:n<=m):MpG c w b m kn:=by
 obtain ⟨D,h1,h2⟩:=h;exact ⟨D,h1.mono hm,h2⟩
theorem MpG.val{z0:α}(hs:s.length<=maxLen){D:DataW Unit}(hD:∀ s:Bs,s.length<=maxLen->Maps.has D (.string s)=(kn s).isSome/\∀ m,kn s=some m->∀ z,D.atKey (.string s) z=c.dat m){v:Value}{ps:List MemPlace}
  (hv:c.rd v=some (D.atKey (.string s) (c.dat z0),ps)):v=c.enc ((kn s).getD z0):=by
 obtain ⟨h1,h2⟩:=hD s hs;cases hk:kn s with
 | none=>
  rw [hk] at h1;rw [Maps.atKey_of_not_has h1] at hv;exact c.inv _ _ _ hv
 | some m=>
  rw [h2 m hk] at hv;exact c.inv _ _ _ hv
theorem MpG.look(h:MpG c w b n kn)(hs:s.length<=maxLen)(hT:Tryz.prog.underlying T=some (.map 9 E)){z0:α}(hz:(zeroValue E).run Tryz.prog w = .ok (c.enc z0) w) :
  (Instr.lookup T (.map (some b)) (.string ⟨s.toArray⟩) true).run Tryz.prog w = .ok (.tuple #[c.enc ((kn s).getD z0),.bool (kn s).isSome]) w:=by
 obtain ⟨D,h1,h2⟩:=h;obtain ⟨v,ps,hr,hv⟩:=h1.look_ok law hT hz (zd:=c.dat z0) (c.rd_enc z0) (q1t hs);rw [hr,MpG.val hs h2 hv,(h2 s hs).1]
theorem MpG.look1(h:MpG c w b n kn)(hs:s.length<=maxLen)(hT:Tryz.prog.underlying T=some (.map 9 E)){z0:α}(hz:(zeroValue E).run Tryz.prog w = .ok (c.enc z0) w) :
  (Instr.lookup T (.map (some b)) (.string ⟨s.toArray⟩) false).run Tryz.prog w = .ok (c.enc ((kn s).getD z0)) w:=by
 obtain ⟨D,h1,h2⟩:=h;obtain ⟨v,ps,hr,hv⟩:=h1.lookup law hT hz (zd:=c.dat z0) (c.rd_enc z0) (q1t hs);rw [hr,MpG.val hs h2 hv]
theorem MpG.put(h:MpG c w b n kn)(hs:s.length<=maxLen)(hn:n < maxLen)(hT:Tryz.prog.underlying T=some (.map 9 E))(m:α) :
  ∃ w',(Instr.mapUpdate T (.map (some b)) (.string ⟨s.toArray⟩) (c.enc m)).run Tryz.prog w = .ok () w'/\MpG c w' b (n+1) (fun t=>if t=s then some m else kn t)/\w.mapTurned w' b:=by
 obtain ⟨D,h1,h2⟩:=h;obtain ⟨w',hr,h3,h4⟩:=h1.store law hT hn (q1t hs) (d:=c.dat m) (c.rd_enc m);refine ⟨w',hr,⟨_,h3,fun t ht=>?_⟩,h4⟩;dsimp only;by_cases e:t=s
 ·exact V2Q
 ·rw [if_neg e];refine ⟨(Maps.has_put_other (q1T e) _).trans (h2 t ht).1,fun m' hm' z=>?_⟩;exact (Maps.atKey_put_other (q1T e) _ _).trans ((h2 t ht).2 m' hm' z)
theorem MpG.del(h:MpG c w b n kn)(hs:s.length<=maxLen)(hT:Tryz.prog.underlying T=some (.map 9 E))(ty:TypeId) :
  ∃ w',(Builtin.delete_ #[T,9] ty #[.map (some b),.string ⟨s.toArray⟩]).run Tryz.prog w = .ok (.tuple #[]) w'/\MpG c w' b n (fun t=>if t=s then none else kn t)/\w.mapTurned w' b:=by
 obtain ⟨D,h1,h2⟩:=h;obtain ⟨w',hr,h3,h4⟩:=h1.drop law hT (q1t hs) ty;refine ⟨w',hr,⟨_,h3,fun t ht=>?_⟩,h4⟩;dsimp only;by_cases e:t=s
 ·subst e;rw [if_pos rfl];refine ⟨Maps.has_del_same,fun m' hm'=>?_⟩;cases hm'
 ·rw [if_neg e];refine ⟨(Maps.has_del_other (q1T e)).trans (h2 t ht).1,fun m' hm' z=>?_⟩;exact (Maps.atKey_del_other (q1T e) _).trans ((h2 t ht).2 m' hm' z)
theorem MpG.made(c:Cod α)(w:World):MpG c (w.alloc (.map #[] 0)) w.heap.size 0 (fun _=>none):=
 ⟨_,World.ownsMap_made w _ _ _,fun s _=>⟨rfl,fun m hm=>by cases hm⟩⟩
end
theorem key_inv{key:Value}{kl:Lit}(h:keyOf Tryz.prog 9 key=some kl):∃ s:Bs,key = .string ⟨s.toArray⟩/\kl = .string s/\s.length<=maxLen:=by
 cases key <;> simp [keyOf,uStr,mapKey] at h;rename_i s;obtain ⟨h1,h2⟩:=h;exact ⟨s.data.toList,V3,h2.symm,(by
  have:s.data.toList.length=s.size:=V3;rw [this];exact h1)⟩
def Tells{α:Type}(c:Cod α)(D:DataW Unit)(kn:Bs->Option α):Prop:=∀ s:Bs,s.length<=maxLen->Maps.has D (.string s)=(kn s).isSome/\∀ m,kn s=some m->∀ z,D.atKey (.string s) z=c.dat m
def MpR{α:Type}(c:Cod α)(w:World)(b r n:Nat)(kn:Bs->Option α)(left:Bs->Bool)(cnt:Nat):Prop:=
 ∃ (D:DataW Unit) (l:Lit->Bool),w.ranges Tryz.prog 9 c.rd b r n D l cnt/\Tells c D kn/\∀ s:Bs,s.length<=maxLen->l (.string s)=left s
section
variable {α : Type} {c : Cod α} {w : World} {b r n : Nat} {kn : Bs -> Option α} {left : Bs -> Bool} {cnt : Nat} {T E : TypeId}
theorem q7Z(s t:Bs):(Lit.string t).sameKey (.string s)=(t==s):=by
 rw [Bool.eq_iff_iff,WideAt.sameKey_iff (isKeyS s)];simp
theorem MpG.range(h:MpG c w b n kn)(hT:Tryz.prog.underlying T=some (.map 9 E)) :
  ∃ w' cnt,(Instr.range T (.map (some b))).run Tryz.prog w = .ok (.pointer (some ⟨w.heap.size,0,none⟩)) w'/\MpR c w' b w.heap.size n kn (fun s=>(kn s).isSome) cnt/\w.grownBy w' none/\w'.heap.size=w.heap.size+1:=by
 obtain ⟨D,h1,h2⟩:=h;obtain ⟨w',r1,r2,r3,r4⟩:=h1.range law hT;exact ⟨w',_,r1,⟨D,_,r2,h2,fun s hs=>(h2 s hs).1⟩,r3,r4⟩
theorem MpR.owns(h:MpR c w b r n kn left cnt):MpG c w b n kn:=by
 obtain ⟨D,l,h1,h2,_⟩:=h;exact ⟨D,h1.owns,h2⟩
theorem MpR.next(h:MpR c w b r n kn left cnt)(ty:TypeId) :
  (cnt = 0/\(∀ s:Bs,s.length<=maxLen->left s=false)/\(Instr.next (.pointer (some ⟨r,0,none⟩)) false ty).run Tryz.prog w = .ok (.tuple #[.bool false]) w) \/
  ∃ (s:Bs) (m:α) (w':World) (cnt':Nat),s.length<=maxLen/\left s=true/\kn s=some m/\(Instr.next (.pointer (some ⟨r,0,none⟩)) false ty).run Tryz.prog w = .ok (.tuple #[.bool true,.string ⟨s.toArray⟩,c.enc m]) w' /\
   MpR c w' b r n kn (fun t=>left t && !(t==s)) cnt'/\cnt' < cnt/\w.grownBy w' (some r)/\w'.heap.size=w.heap.size/\(Instr.entry (.pointer (some ⟨r,0,none⟩))).run Tryz.prog w' = .ok (.tuple #[.string ⟨s.toArray⟩,c.enc m]) w':=by
 obtain ⟨D,l,h1,h2,h3⟩:=h;rcases h1.next law ty with ⟨h0,hl,hrun⟩ | ⟨key,v,kl,y,w',cnt',hkey,hlk,hv,hat,hrun,hrg,hlt,hgr,hsz,hen⟩
 ·exact .inl ⟨h0,fun s hs=>by rw [<-h3 s hs];exact hl _,hrun⟩
 ·obtain ⟨s,rfl,rfl,hs⟩:=key_inv hkey;have hhas:Maps.has D (.string s)=true:=by
   cases hh:Maps.has D (.string s) with
   | true=>rfl
   | false=>
    have e1:=hat (.agg []);have e2:=hat (.agg [.agg []]);rw [Maps.atKey_of_not_has hh] at e1 e2;rw [<-e2] at e1;cases e1
  have hk:=(h2 s hs).1;rw [hhas] at hk;obtain ⟨m,hm⟩:=Option.isSome_iff_exists.1 hk.symm;have hd:=(h2 s hs).2 m hm (.agg []);rw [hat] at hd;obtain ⟨d,ps⟩:=y;have hd':d=c.dat m:=hd;subst hd';have hve:=c.inv v m ps hv;subst hve;refine .inr ⟨s,m,w',cnt',hs,by rw [<-h3 s hs];exact hlk,hm,hrun,⟨D,_,hrg,h2,fun t ht=>?_⟩,hlt,hgr,hsz,hen⟩;exact V3V
theorem MpR.drop(h:MpR c w b r n kn left cnt)(hT:Tryz.prog.underlying T=some (.map 9 E)){s:Bs}(hs:s.length<=maxLen)(ty:TypeId) :
  ∃ w' cnt',(Builtin.delete_ #[T,9] ty #[.map (some b),.string ⟨s.toArray⟩]).run Tryz.prog w = .ok (.tuple #[]) w'/\MpR c w' b r n (fun t=>if t=s then none else kn t) (fun t=>left t && !(t==s)) cnt'/\cnt'<=cnt/\w.mapTurned w' b:=by
 obtain ⟨D,l,h1,h2,h3⟩:=h;obtain ⟨w',cnt',r1,r2,r3,r4⟩:=h1.drop law hT (q1t hs) ty;refine ⟨w',cnt',r1,⟨_,_,r2,fun t ht=>?_,fun t ht=>?_⟩,r3,r4⟩
 ·dsimp only;by_cases e:t=s
  ·subst e;rw [if_pos rfl];exact ⟨Maps.has_del_same,fun m' hm'=>by cases hm'⟩
  ·rw [if_neg e];exact V37
 ·exact V3V
end
section
variable {α : Type} {c : Cod α} (w : World) {ops : Array Oper} {rest : List Oper} {o : Oper} {a : Act} {Q : Exit -> Act -> World -> Prop} {b r n : Nat} {kn : Bs -> Option α} {left : Bs -> Bool} {cnt : Nat} {E : TypeId}
theorem q31(hg:o.guard=none)(m:Operand)(T:TypeId)(hop:o.op=Op.range T m)(hT:Tryz.prog.underlying T=some (.map 9 E))(hm:a.eval m = .map (some b))(h:MpG c w b n kn)
  (hK:∀ w' cnt,MpR c w' b w.heap.size n kn (fun s=>(kn s).isSome) cnt->w.grownBy w' none->w'.heap.size=w.heap.size+1->wpList Tryz.prog ops Q rest (a.put o.dst (.pointer (some ⟨w.heap.size,0,none⟩))) w') :
  wpList Tryz.prog ops Q (o :: rest) a w:=by
 refine wpList_plain hg fun K' hK'=>?_
 obtain ⟨w',cnt,hrun,r1,r2,r3⟩:=h.range hT;unfold Oper.wp;simp [execOp,hop,hm,hrun,Result.andThen];exact hK' _ _ (hK w' cnt r1 r2 r3)
theorem q3F(hg:o.guard=none)(it:Operand)(hop:o.op=Op.next it false)(hit:a.eval it = .pointer (some ⟨r,0,none⟩))(h:MpR c w b r n kn left cnt)
  (hDone:cnt = 0->(∀ s:Bs,s.length<=maxLen->left s=false)->wpList Tryz.prog ops Q rest (a.put o.dst (.tuple #[.bool false])) w)
  (hMore:∀ (s:Bs) (m:α) (w':World) (cnt':Nat),s.length<=maxLen->left s=true->kn s=some m->MpR c w' b r n kn (fun t=>left t && !(t==s)) cnt'->cnt' < cnt->w.grownBy w' (some r)->w'.heap.size=w.heap.size ->
   (Instr.entry (.pointer (some ⟨r,0,none⟩))).run Tryz.prog w' = .ok (.tuple #[.string ⟨s.toArray⟩,c.enc m]) w'->wpList Tryz.prog ops Q rest (a.put o.dst (.tuple #[.bool true,.string ⟨s.toArray⟩,c.enc m])) w') :
  wpList Tryz.prog ops Q (o :: rest) a w:=by
 refine wpList_plain hg fun K' hK'=>?_
 unfold Oper.wp;rcases h.next o.type with ⟨h0,hl,hrun⟩ | ⟨s,m,w',cnt',hs,hlk,hm,hrun,hrg,hlt,hgr,hsz,hen⟩
 ·simp [execOp,hop,hit,hrun,Result.andThen];exact hK' _ _ (hDone h0 hl)
 ·simp [execOp,hop,hit,hrun,Result.andThen];exact hK' _ _ (hMore s m w' cnt' hs hlk hm hrg hlt hgr hsz hen)
end
noncomputable def Cod.of {α:Type} (enc:α->Value) (dat:α->DataW Unit) (he:∀ a b,enc a=enc b->a=b) (hd:∀ a b,dat a=dat b->a=b):Cod α where
 enc:=enc
 dat:=dat
 rd:=fun v=>@dite _ (∃ a,enc a=v) (Classical.propDecidable _) (fun h=>some (dat h.choose,[])) fun _=>none
 rd_enc:=fun a=>by
  have h:∃ b,enc b=enc a:=⟨a,rfl⟩;rw [dif_pos h,he _ _ h.choose_spec]
 inv:=fun v a ps h=>by
  by_cases hv:∃ b,enc b=v
  ·rw [dif_pos hv] at h;have h1:dat hv.choose=dat a:=by
    have:=Option.some.inj h;exact congrArg (·.1) this
   rw [<-hd _ _ h1];exact hv.choose_spec.symm
  ·rw [dif_neg hv] at h;cases h
def loN(m:Option (BitVec 32)):Int:=((m.getD 0).toNat:Int)
def wkV(m:Wk):Value:=.agg #[.bool m.sec,.bool m.aN.isSome,.int .u32 (loN m.aN)]
def wkD(m:Wk):DataW Unit:=.agg [.lit (.bool m.sec),.lit (.bool m.aN.isSome),.lit (.int .u32 (loN m.aN))]
theorem q8I{a b:Option (BitVec 32)}(h1:a.isSome=b.isSome)(h2:loN a=loN b):a=b:=by
 cases a with
 | none=>cases b with
  | none=>rfl
  | some y=>cases h1
 | some x=>cases b with
  | none=>cases h1
  | some y=>
   have:x.toNat=y.toNat:=Int.ofNat.inj h2;rw [BitVec.eq_of_toNat_eq this]
noncomputable def codW:Cod Wk:=Cod.of wkV wkD (fun a b h=>by
  obtain ⟨s,l⟩:=a;obtain ⟨s',l'⟩:=b;simp only [wkV,Value.agg.injEq,Array.mk.injEq,List.cons.injEq,Value.bool.injEq,Value.int.injEq,true_and,and_true] at h;obtain ⟨rfl,h1,h2⟩:=h;rw [q8I h1 h2]) fun a b h=>by
  obtain ⟨s,l⟩:=a;obtain ⟨s',l'⟩:=b;simp only [wkD,DataW.agg.injEq,List.cons.injEq,DataW.lit.injEq,Lit.bool.injEq,Lit.int.injEq,true_and,and_true] at h;obtain ⟨rfl,h1,h2⟩:=h;rw [q8I h1 h2]
structure Nd where
 k:Int
 a:Int
 s:Bs
 n:Nat
 A:Option Addr
 la:Nat
 cA:Nat
 B:Option Addr
 lb:Nat
 cB:Nat
def ndV(d:Nd):Value:=aO d.k d.a d.s d.n d.A d.la d.cA d.B d.lb d.cB
def natD(n:Nat):DataW Unit:=.lit (.int .i64 (n:Int))
def adD:Option Addr->DataW Unit
 | none=>.nil
 | some ⟨b,o,none⟩=>.agg [natD b,natD o]
 | some ⟨b,o,some p⟩=>.agg [natD b,natD o,natD p]
theorem q0J{a b:Nat}(h:natD a=natD b):a=b:=by
 simp only [natD,DataW.lit.injEq,Lit.int.injEq,true_and] at h;omega
theorem q6S:∀ {A B:Option Addr},adD A=adD B->A=B
 | none,none,_=>rfl
 | some ⟨b,o,none⟩,none,h=>V09
 | some ⟨b,o,some p⟩,none,h=>V09
 | none,some ⟨b,o,none⟩,h=>V09
 | none,some ⟨b,o,some p⟩,h=>V09
 | some ⟨b,o,none⟩,some ⟨b',o',none⟩,h=>by
  simp only [adD,DataW.agg.injEq,List.cons.injEq,and_true] at h;rw [q0J h.1,q0J h.2]
 | some ⟨b,o,none⟩,some ⟨b',o',some p'⟩,h=>V09
 | some ⟨b,o,some p⟩,some ⟨b',o',none⟩,h=>V09
 | some ⟨b,o,some p⟩,some ⟨b',o',some p'⟩,h=>by
  simp only [adD,DataW.agg.injEq,List.cons.injEq,and_true] at h;rw [q0J h.1,q0J h.2.1,q0J h.2.2]
def ndD(d:Nd):DataW Unit:=.agg [.lit (.int .i64 d.k),.lit (.int .i64 d.a),.lit (.string d.s),natD d.n,adD d.A,natD d.la,natD d.cA,adD d.B,natD d.lb,natD d.cB]
noncomputable def codN:Cod Nd:=Cod.of ndV ndD (fun a b h=>by
  obtain ⟨k,a,s,n,A,la,cA,B,lb,cB⟩:=a;obtain ⟨k',a',s',n',A',la',bu,B',lb',bA⟩:=b;simp only [ndV,Value.agg.injEq,Array.mk.injEq,List.cons.injEq,Value.string.injEq,Value.slice.injEq,Value.int.injEq,true_and,and_true] at h;obtain ⟨rfl,h1,h2,rfl,⟨rfl,rfl,rfl⟩,rfl,rfl,rfl⟩:=h;have e1:s=s':=by
   have:=congrArg (fun b:ByteArray=>b.data.toList) h1;simpa using this
  have e2:n=n':=V0;rw [e1,e2]) fun a b h=>by
  obtain ⟨k,a,s,n,A,la,cA,B,lb,cB⟩:=a;obtain ⟨k',a',s',n',A',la',bu,B',lb',bA⟩:=b;simp only [ndD,DataW.agg.injEq,List.cons.injEq,DataW.lit.injEq,Lit.int.injEq,Lit.string.injEq,true_and,and_true] at h;obtain ⟨rfl,rfl,rfl,h1,h2,h3,h4,h5,h6,h7⟩:=h;rw [q0J h1,q6S h2,q0J h3,q0J h4,q6S h5,q0J h6,q0J h7]
/-! The maps' runs. -/
abbrev zWk:Wk:=⟨false,none⟩
abbrev zNd:Nd:=⟨0,0,[],0,none,0,0,none,0,0⟩
theorem zFa(w:World):(zeroValue 180).run Tryz.prog w = .ok (codW.enc zWk) w:=by
 show _=Result.ok (wkV zWk) w;kernel_rfl
theorem zNo(w:World):(zeroValue 26).run Tryz.prog w = .ok (codN.enc zNd) w:=by
 show _=Result.ok (ndV zNd) w;kernel_rfl
theorem uFa:Tryz.prog.underlying 116=some (.map 9 180):=V1
theorem uFn:Tryz.prog.underlying 73=some (.map 9 26):=V1
def wkAt(kn:Kw)(s:Bs):Wk:=(kn s).getD zWk
theorem wkAt_lo(kn:Kw)(s:Bs):(wkAt kn s).aN=bL kn s:=by
 unfold wkAt bL;cases kn s <;> rfl
theorem q3G(kn:Kw)(s:Bs):(wkAt kn s).sec=secB kn s:=by
 unfold wkAt secB;cases kn s <;> rfl
abbrev MpW(w:World)(b n:Nat)(kn:Kw):Prop:=MpG codW w b n kn
abbrev MpN(w:World)(b n:Nat)(kn:Bs->Option Nd):Prop:=MpG codN w b n kn
section
variable {w : World} {b n : Nat} {kn : Kw} {kd : Bs -> Option Nd} {s : Bs}
theorem q80(h:MpW w b n kn)(hs:s.length<=maxLen):(Instr.lookup 116 (.map (some b)) (.string ⟨s.toArray⟩) true).run Tryz.prog w = .ok (.tuple #[wkV (wkAt kn s),.bool (kn s).isSome]) w:=h.look hs uFa (zFa w)
theorem q2X(h:MpW w b n kn)(hs:s.length<=maxLen):(Instr.lookup 116 (.map (some b)) (.string ⟨s.toArray⟩) false).run Tryz.prog w = .ok (wkV (wkAt kn s)) w:=h.look1 hs uFa (zFa w)
theorem q3H(h:MpW w b n kn)(hs:s.length<=maxLen)(hn:n < maxLen)(m:Wk) :
  ∃ w',(Instr.mapUpdate 116 (.map (some b)) (.string ⟨s.toArray⟩) (wkV m)).run Tryz.prog w = .ok () w'/\MpW w' b (n+1) (kn.put s m)/\w.mapTurned w' b:=h.put hs hn uFa m
theorem q6T(h:MpN w b n kd)(hs:s.length<=maxLen):(Instr.lookup 73 (.map (some b)) (.string ⟨s.toArray⟩) false).run Tryz.prog w = .ok (ndV ((kd s).getD zNd)) w:=h.look1 hs uFn (zNo w)
theorem mpn_put(h:MpN w b n kd)(hs:s.length<=maxLen)(hn:n < maxLen)(m:Nd) :
  ∃ w',(Instr.mapUpdate 73 (.map (some b)) (.string ⟨s.toArray⟩) (ndV m)).run Tryz.prog w = .ok () w'/\MpN w' b (n+1) (fun t=>if t=s then some m else kd t)/\w.mapTurned w' b:=h.put hs hn uFn m
end
def FnD(w0:World)(f:List Bs×List Tz)(d:Nd):Prop:=TIc True w0 (.mk d.k d.a d.s d.n f.1 f.2) (nzC d.k d.a d.s d.n d.A d.la d.cA d.B d.lb d.cB)/\(∀ p∈f.1,p.length<=maxLen)/\aY f.2/\nzs f.2
def FuM(w0 w:World)(b n:Nat)(fu:Fu):Prop:=
 ∃ kd,MpN w b n kd/\∀ s,match fu s with | none=>kd s=none | some f=>∃ d,kd s=some d/\FnD w0 f d
section
variable {w0 w w' : World} {b n : Nat} {fu : Fu} {X : Nat -> Prop}
theorem FuM.upd(h:FuM w0 w b n fu)(hu:Upd X w w')(hx:¬ X b):FuM w0 w' b n fu:=by
 obtain ⟨kd,h1,h2⟩:=h;exact ⟨kd,h1.upd hu hx,h2⟩
theorem FuM.lt(h:FuM w0 w b n fu):b < w.heap.size:=by obtain ⟨kd,h1,h2⟩:=h;exact h1.lt
theorem FuM.mono(h:FuM w0 w b n fu){m:Nat}(hm:n<=m):FuM w0 w b m fu:=by
 obtain ⟨kd,h1,h2⟩:=h;exact ⟨kd,h1.mono hm,h2⟩
end
theorem q8J:∀ {l:List Tz},nzs l->∀ {i:Nat} {x:Tz},l[i]?=some x->nz x
 | [],_,i,x,h=>Vc
 | y :: l,h,0,x,hx=>by
  have:y=x:=Vo;subst this;unfold nzs at h;exact h.1
 | y :: l,h,i+1,x,hx=>by
  unfold nzs at h;exact q8J h.2 Vo
theorem q3I{k a:Int}{s:Bs}{n:Nat}{ps:List Bs}{l:List Tz}(h:nz (.mk k a s n ps l)):n < 4294967296/\nzs l:=by unfold nz at h;exact h
theorem q5n:∀ (i:Nat) {l:List Tz},nzs l->nzs (l.take i)
 | 0,l,h=>by simp [nzs]
 | i+1,[],h=>by simp [nzs]
 | i+1,x :: l,h=>by
  unfold nzs at h;rw [List.take_succ_cons];unfold nzs;exact ⟨h.1,q5n i h.2⟩
theorem q5o:∀ (i:Nat) {l:List Tz},nzs l->nzs (l.drop i)
 | 0,l,h=>h
 | i+1,[],h=>by simp [nzs]
 | i+1,x :: l,h=>by
  unfold nzs at h;rw [List.drop_succ_cons];exact q5o i h.2
theorem bQ:∀ (i:Nat) {l:List Tz},aY l->aY (l.take i)
 | 0,l,h=>V0b
 | i+1,[],h=>V0b
 | i+1,x :: l,h=>by
  unfold aY at h;rw [List.take_succ_cons];unfold aY;exact ⟨h.1,bQ i h.2⟩
theorem q3c:∀ (i:Nat) {l:List Tz},aY l->aY (l.drop i)
 | 0,l,h=>h
 | i+1,[],h=>V0b
 | i+1,x :: l,h=>by
  unfold aY at h;rw [List.drop_succ_cons];exact q3c i h.2
theorem q4o{q:Prop}{w:World}:∀ (i:Nat) {l:List Tz} {css:List (List Value)},Am q w l css->Am q w (l.drop i) (css.drop i)
 | 0,l,css,h=>h
 | i+1,[],css,h=>by unfold Am at h;subst h;simp [Am]
 | i+1,x :: l,css,h=>by
  unfold Am at h;obtain ⟨c,r,rfl,h2,h3⟩:=h;rw [List.drop_succ_cons,List.drop_succ_cons];exact q4o i h3
theorem q4p{q:Prop}{w:World}:∀ (i:Nat) {l:List Tz} {css:List (List Value)},Am q w l css->Am q w (l.take i) (css.take i)
 | 0,l,css,h=>by simp [Am]
 | i+1,[],css,h=>by unfold Am at h;subst h;simp [Am]
 | i+1,x :: l,css,h=>by
  unfold Am at h;obtain ⟨c,r,rfl,h2,h3⟩:=h;rw [List.take_succ_cons,List.take_succ_cons];unfold Am;exact ⟨c,_,rfl,h2,q4p i h3⟩
theorem flat_len{q:Prop}{w:World}:∀ {l:List Tz} {css:List (List Value)},Am q w l css->css.flatten.length=l.length * 6
 | [],css,h=>by unfold Am at h;subst h;rfl
 | x :: l,css,h=>by
  unfold Am at h;obtain ⟨c,r,rfl,h2,h3⟩:=h;obtain ⟨_,_,_,_,_,_,_,_,_,_,rfl⟩:=q1V h2;rw [List.flatten_cons,List.length_append,flat_len h3,List.length_cons];show 6+_=_;omega
theorem q4q{q:Prop}{w:World}:∀ (i:Nat) {l:List Tz} {css:List (List Value)},Am q w l css->i<=l.length->(css.drop i).flatten=css.flatten.drop (i * 6)
 | 0,l,css,h,_=>V3
 | i+1,[],css,h,hi=>absurd hi (Nat.not_succ_le_zero _)
 | i+1,x :: l,css,h,hi=>by
  unfold Am at h;obtain ⟨c,r,rfl,h2,h3⟩:=h;have hc:c.length = 6:=V1D;have e1:c.drop ((i+1) * 6)=[]:=List.drop_eq_nil_of_le V0;rw [List.drop_succ_cons,q4q i h3 (by simpa using hi),List.flatten_cons,List.drop_append,e1,hc,List.nil_append]
  congr 1
  omega
theorem lies_take{w:World}{A:Option Addr}{xs ys:List Value}(h:Af w A (xs ++ ys)):Af w A xs:=fun j u hj=>h j u (by
 have:=(List.getElem?_eq_some_iff.1 hj).1;rw [List.getElem?_append_left this];exact hj)
theorem q6U{q:Prop}{w:World}{A:Option Addr}{W:World}(i:Nat){css:List (List Value)}(h:Af W A css.flatten):Af W A (css.take i).flatten:=by
 have e:css.flatten=(css.take i).flatten ++ (css.drop i).flatten:=by rw [<-List.flatten_append,List.take_append_drop]
 rw [e] at h;exact lies_take h
structure Pts(w:World)(A:Option Addr)(c:Nat)(l:List Tz):Prop where
 lies:∃ css,Af w A css.flatten/\Am True w l css
 le:l.length<=c
 cap:c<=maxLen
 len:aY l
 num:nzs l
theorem Pts.below{w w':World}{A:Option Addr}{c:Nat}{l:List Tz}(h:Pts w A c l)(hb:Below w.heap.size w w'):Pts w' A c l:=by
 obtain ⟨⟨css,h1,h2⟩,h3,h4,h5,h6⟩:=h;exact ⟨⟨css,h1.below hb,TsIz.below hb h2⟩,h3,h4,h5,h6⟩
theorem Pts.take{w:World}{A:Option Addr}{c c':Nat}{l:List Tz}(h:Pts w A c l)(i:Nat)(h1:(l.take i).length<=c')(h2:c'<=maxLen){A':Option Addr}(hA:∀ W xs,Af W A xs->Af W A' xs):Pts w A' c' (l.take i):=by
 obtain ⟨⟨css,g1,g2⟩,h3,h4,h5,h6⟩:=h;exact ⟨⟨css.take i,hA _ _ (q6U (q:=True) (w:=w) i g1),q4p i g2⟩,h1,h2,bQ i h5,q5n i h6⟩
theorem Pts.drop{w:World}{A:Option Addr}{c c':Nat}{l:List Tz}(h:Pts w A c l)(i:Nat)(h1:(l.drop i).length<=c')(h2:c'<=maxLen){A':Option Addr}(hA:0 < l.length - i->∀ W xs,Af W A xs->Af W A' (xs.drop (i * 6))):Pts w A' c' (l.drop i):=by
 obtain ⟨⟨css,g1,g2⟩,h3,h4,h5,h6⟩:=h;rcases Nat.lt_or_ge i l.length with hi | hi
 ·refine ⟨⟨css.drop i,?_,q4o i g2⟩,h1,h2,q3c i h5,q5o i h6⟩;rw [q4q i g2 (Nat.le_of_lt hi)];exact hA V0 _ _ g1
 ·rw [List.drop_eq_nil_of_le hi] at h1 ⊢;exact ⟨⟨[],fun j u hj=>by simp at hj,by unfold Am;rfl⟩,h1,h2,by unfold aY;trivial,by unfold nzs;trivial⟩
def TrV(w:World)(z:Tz)(k a:Int)(s:Bs)(n:Nat)(A:Option Addr)(la cA:Nat)(B:Option Addr)(lb cB:Nat):Prop:=TIc True w z (nzC k a s n A la cA B lb cB)/\lenz z/\nz z
theorem TrV.below{w w':World}{z:Tz}{k a:Int}{s:Bs}{n:Nat}{A:Option Addr}{la cA:Nat}{B:Option Addr}{lb cB:Nat}(h:TrV w z k a s n A la cA B lb cB)(hb:Below w.heap.size w w'):TrV w' z k a s n A la cA B lb cB:=⟨TIz.below hb h.1,h.2⟩
theorem TrV.parts{w:World}{k1 a1:Int}{s1:Bs}{n1:Nat}{ps:List Bs}{l:List Tz}{k a:Int}{s:Bs}{n:Nat}{A:Option Addr}{la cA:Nat}{B:Option Addr}{lb cB:Nat}(h:TrV w (.mk k1 a1 s1 n1 ps l) k a s n A la cA B lb cB) :
  k=k1/\a=a1/\s=s1/\n=n1/\la=l.length/\lb=ps.length/\Pts w A cA l/\s1.length<=maxLen/\n1 < 4294967296/\Af w B (ps.map ai)/\(∀ p∈ps,p.length<=maxLen)/\lb<=cB/\cB<=maxLen:=by
 obtain ⟨h1,h2,h3⟩:=h;obtain ⟨c1,c2⟩:=q3p h1;obtain ⟨d1,d2⟩:=q4X h1;obtain ⟨rfl,rfl,rfl,rfl,rfl,rfl,hl,hp,hB,css,hL,hS⟩:=q0B h1;obtain ⟨g1,g2,g3⟩:=q0G h2;obtain ⟨i1,i2⟩:=q3I h3;exact ⟨rfl,rfl,rfl,rfl,rfl,rfl,⟨⟨css,hL,hS⟩,c1,c2,g3,i2⟩,g1,i1,hB,g2,d1,d2⟩
theorem Pts.at_{w0 w:World}{A:Option Addr}{c:Nat}{l:List Tz}(h:Pts w0 A c l)(hb:Below w0.heap.size w0 w){i:Nat}{y:Tz}(hy:l[i]?=some y) :
  ∃ b o k a s n A' la cA B lb cB,A=some ⟨b,o,none⟩/\TrV w0 y k a s n A' la cA B lb cB/\b < w0.heap.size/\w.cell? ⟨b,o+i * 6,none⟩=some (.int .i64 k)/\w.cell? ⟨b,o+i * 6+1,none⟩=some (.string ⟨s.toArray⟩) /\
   w.cell? ⟨b,o+i * 6+2,none⟩=some (.int .u32 (n:Int))/\w.cell? ⟨b,o+i * 6+3,none⟩=some (.int .i64 a)/\w.cell? ⟨b,o+i * 6+4,none⟩=some (.slice A' la cA)/\w.cell? ⟨b,o+i * 6+5,none⟩=some (.slice B lb cB):=by
 obtain ⟨⟨css,g1,g2⟩,_,_,h5,h6⟩:=h;obtain ⟨b,o,k,a,s,n,A',la,cA,B,lb,cB,h1,h2,h3,e0,e1,e2,e3,e4,e5⟩:=q0T hb g1 g2 hy;exact ⟨b,o,k,a,s,n,A',la,cA,B,lb,cB,h1,⟨h2,q1W h5 hy,q8J h6 hy⟩,h3,e0,e1,e2,e3,e4,e5⟩
abbrev panF(a:Int)(er:Nat):Ending:=.panicked [{ v:=.iface 113 (.agg #[.int .i64 a,.int .i64 (er:Int)]),recovered:=false }]
theorem Aa.c7{w:World}{g:Nat}{t:TypeId}{a b c d e f h:Value}(H:Aa w g t #[a,b,c,d,e,f,h]) :
  (w.cell? ⟨g,0,none⟩=some a/\w.cell? ⟨g,1,none⟩=some b/\w.cell? ⟨g,2,none⟩=some c/\w.cell? ⟨g,3,none⟩=some d/\w.cell? ⟨g,4,none⟩=some e/\w.cell? ⟨g,5,none⟩=some f/\w.cell? ⟨g,6,none⟩=some h):=
 ⟨H.cell 0,H.cell 1,H.cell 2,H.cell 3,H.cell 4,H.cell 5,H.cell 6⟩
end Fl
namespace WMath
open Go
theorem q0t(x:BitVec 32):BitVec.ofInt 32 (x.toNat:Int)=x:=by
 rw [BitVec.ofInt_natCast,BitVec.ofNat_toNat];simp
theorem wrapU32(x:BitVec 32):IntKind.u32.wrap (x.toNat:Int)=(x.toNat:Int):=by
 rw [IntKind.wrap_u32];have:=x.isLt;omega
theorem b_and(x y:BitVec 32):bits .and .u32 (x.toNat:Int) (y.toNat:Int)=((x &&& y).toNat:Int):=by
 show IntKind.u32.wrap ((BitVec.ofInt 32 (x.toNat:Int) &&& BitVec.ofInt 32 (y.toNat:Int)).toNat:Int)=_;rw [q0t,q0t,wrapU32]
theorem b_or(x y:BitVec 32):bits .or .u32 (x.toNat:Int) (y.toNat:Int)=((x ||| y).toNat:Int):=by
 show IntKind.u32.wrap ((BitVec.ofInt 32 (x.toNat:Int) ||| BitVec.ofInt 32 (y.toNat:Int)).toNat:Int)=_;rw [q0t,q0t,wrapU32]
theorem b_xor(x y:BitVec 32):bits .xor .u32 (x.toNat:Int) (y.toNat:Int)=((x ^^^ y).toNat:Int):=by
 show IntKind.u32.wrap ((BitVec.ofInt 32 (x.toNat:Int) ^^^ BitVec.ofInt 32 (y.toNat:Int)).toNat:Int)=_;rw [q0t,q0t,wrapU32]
theorem q81(x y:BitVec 32):bits .andNot .u32 (x.toNat:Int) (y.toNat:Int)=((x &&& ~~~y).toNat:Int):=by
 show IntKind.u32.wrap ((BitVec.ofInt 32 (x.toNat:Int) &&& ~~~BitVec.ofInt 32 (y.toNat:Int)).toNat:Int)=_;rw [q0t,q0t,wrapU32]
theorem top(x:BitVec 32):(((x.toNat:Int) / 2147483648)==1)=x.msb:=by
 rw [BitVec.msb_eq_decide,Bool.eq_iff_iff];have:=x.isLt;simp;omega
def cin(c:Bool):BitVec 32:=if c then 1 else 0
def sum(a b:BitVec 32)(c:Bool):BitVec 32:=a+b+cin c
def over(a b:BitVec 32)(c:Bool):Bool:=(a.msb ^^ (sum a b c).msb) && (b.msb ^^ (sum a b c).msb)
end WMath
namespace Word
open Go.ChangeShapes Go.WideShapes Go.ChangeAt Go.RowKit WMath
abbrev u(x:BitVec 32):Value:=.int .u32 (x.toNat:Int)
theorem bd(x:BitVec 32):(x.toNat:Int) < 4294967296:=V16
theorem sel(m a b:BitVec 32)(w:World) :
  Calls Tryz.prog 110 #[u m,u a,u b] w fun e w'=>e = .returned (u ((a &&& m) ||| (b &&& ~~~m)))/\w=w':=by
 have h1:=bd m;have h2:=bd a;have h3:=bd b;go_enter Tryz.func110,Tryz.ntmps110
 go_wp2
 go_ret;refine ⟨?_,rfl⟩;show Ending.returned (.int .u32 (bits .or .u32 (bits .and .u32 (a.toNat:Int) (m.toNat:Int)) (bits .andNot .u32 (b.toNat:Int) (m.toNat:Int))))=_;rw [b_and,q81,b_or]
theorem highest(a:BitVec 32)(w:World):Calls Tryz.prog 135 #[u a] w fun e w'=>e = .returned (.bool a.msb)/\w=w':=by
 have h2:=bd a;go_enter Tryz.func135,Tryz.ntmps135
 go_wp2
 go_ret;refine ⟨?_,rfl⟩;show Ending.returned (.bool ((a.toNat:Int) / 2147483648==1))=_;rw [top]
end Word
section
open Go.ChangeShapes Go.WideShapes Go.ChangeAt Go.RowKit WMath Word
theorem b_not(x:BitVec 32):bits .xor .u32 4294967295 (x.toNat:Int)=((~~~x).toNat:Int):=by
 have h:=b_xor 4294967295#32 x;rw [show ((4294967295#32).toNat:Int) = 4294967295 from rfl] at h;rw [h]
 congr 2
theorem un_not(x:BitVec 32):Op.unary .xor (.int .u32 (x.toNat:Int))=pure (Value.int .u32 ((~~~x).toNat:Int)):=by
 show pure (Value.int .u32 (bits .xor .u32 4294967295 (x.toNat:Int)))=_;rw [b_not]
end
end Go.Proofs.YtcgibpdjfgjldaaGreatDoor
