/- DERIVED. FlSpec, FlAr. By an AI agent. -/
import Derived.Test.YtdhoemlomojfaaaGreatDoorW08
set_option linter.unusedVariables false
set_option linter.unusedSimpArgs false
namespace Go.Proofs.YtdhoemlomojfaaaGreatDoor.Fl
open Lx Pa Sh Go.Proofs.YtdhoemlomojfaaaGreatDoor.Nm
structure Wk where
 sec:Bool
 loo:Option (BitVec 32)
abbrev Kw:=Bs→Option Wk
def Kw.put(kn:Kw)(s:Bs)(m:Wk):Kw:=fun t=>if t=s then some m else kn t
def secB(kn:Kw)(s:Bs):Bool:=match kn s with | some m=>m.sec | none=>false
abbrev Lo:=Bs→Option (BitVec 32)
def looB(kn:Kw):Lo:=fun s=>match kn s with | some m=>m.loo | none=>none
inductive Rf(α:Type)
 | ok (x:α)
 | bad (a:Int) (er:Nat)
def bndF{α β:Type}(r:Rf α)(f:α→Rf β):Rf β:=match r with | .ok x=>f x | .bad a e=>.bad a e
def sgU:List Bs:=[[126],[45]]
def sgB:List Bs:=[[43],[45],[38],[124],[94]]
def sgS:List Bs:=[[60,60],[62,62],[60,60,60]]
def fitB(lo:Lo)(k:Int)(s:Bs)(m:Nat):Bool:=
 if k = 0 then true else if k = 1 then (lo s).isSome else if k = 2 then decide (m = 1) && sgU.contains s else if k = 3 then decide (m = 2) && sgB.contains s else if k = 4 then decide (m = 2) && sgS.contains s else false
mutual
def strB(lo:Lo):Tz→Option (Int×Int×Bs)
 | .mk k a s _ _ l=>if fitB lo k s l.length=true then strBs lo l else some (k,a,s)
def strBs(lo:Lo):List Tz→Option (Int×Int×Bs)
 | []=>none
 | x :: l=>match strB lo x with | some e=>some e | none=>strBs lo l
end
abbrev Num:=Lo→Tz→BitVec 32
def badB(kn:Kw)(e:Int×Int×Bs):Nat:=if e.1 = 1∧secB kn e.2.2=true then 130 else 120
def nuB(num:Num)(kn:Kw)(z:Tz):Rf (BitVec 32):=match strB (looB kn) z with | some e=>.bad e.2.1 (badB kn e) | none=>.ok (num (looB kn) z)
def nx(nd:Int):Int:=(nd+1+9223372036854775808) % 18446744073709551616 - 9223372036854775808
def seqB(f:Tz→Int→Rf (Bool×Int)):List Tz→Int→Rf (List Bool×Int)
 | [],nd=>.ok ([],nd)
 | x :: l,nd=>bndF (f x nd) fun q=>bndF (seqB f l q.2) fun r=>.ok (q.1 :: r.1,r.2)
abbrev Fu:=Bs→Option (List Bs×List Tz)
def parB:List Bs→List Bool→Kw
 | p :: ps,b :: bs=>fun t=>match parB ps bs t with | some m=>some m | none=>if t=p then some ⟨b,none⟩ else none
 | _,_=>fun _=>none
abbrev Sub:=Kw→Tz→Int→Rf (Bool×Int)
def calB(fu:Fu)(sub:Sub)(s:Bs)(q:List Bool×Int):Rf (Bool×Int):=
 if s=sel then .ok (q.1.any id,q.2) else match fu s with
  | none=>.ok (false,q.2)
  | some f=>bndF (seqB (sub (parB f.1 q.1)) (f.2.take 1) q.2) fun r=>.ok (r.1.any id,r.2)
section
variable (num : Num) (M : Int) (fu : Fu)
mutual
def exT(deep:Bool)(sub:Sub)(kn:Kw):Tz→Int→Rf (Bool×Int)
 | .mk k a s _ _ l,nd=>
  if k = 5 then (if M < nx nd∨deep=true then .bad a 150 else bndF (seqB (sub kn) l (nx nd)) fun q=>calB fu sub s q)
  else if k = 4 then exS deep sub kn l (nx nd)
  else bndF (exTs deep sub kn l (nx nd)) fun q=>.ok (if k = 1 then secB kn s else if k = 2∨k = 3 then q.1.any id else false,q.2)
def exS(deep:Bool)(sub:Sub)(kn:Kw):List Tz→Int→Rf (Bool×Int)
 | [],nd=>.ok (false,nd)
 | x :: l,nd=>bndF (match l with | []=>.ok 0 | y :: _=>nuB num kn y) fun _=>exT deep sub kn x nd
def exTs(deep:Bool)(sub:Sub)(kn:Kw):List Tz→Int→Rf (List Bool×Int)
 | [],nd=>.ok ([],nd)
 | x :: l,nd=>bndF (exT deep sub kn x nd) fun q=>bndF (exTs deep sub kn l q.2) fun r=>.ok (q.1 :: r.1,r.2)
end
def exC:Nat→Sub
 | 0=>exT num M fu true fun _ _ nd=>.ok (false,nd)
 | c+1=>exT num M fu false (exC c)
end
structure Sf where
 kn:Kw
 rd:Nat
 nd:Int
 ou:List (Bs×Bool×Bool)
def putsB(kn:Kw)(b:Bool):List Bs→Kw
 | []=>kn
 | s :: l=>putsB (kn.put s ⟨b,none⟩) b l
def cutB(kn kn':Kw):Kw:=fun t=>if (kn t).isSome=true then kn' t else none
def roB(R:Nat)(a:Int)(s:Bs)(body:Sf→Rf Sf):Nat→BitVec 32→Sf→Rf Sf
 | 0,_,c=>.ok c
 | n+1,i,c=>if R < c.rd+1 then .bad a 150 else bndF (body { c with rd:=c.rd+1,kn:=c.kn.put s ⟨false,some i⟩ }) fun d=>roB R a s body n (i+1) { d with kn:=cutB c.kn d.kn }
section
variable (num : Num) (M : Int) (D R : Nat) (fu : Fu)
def n0B(kn:Kw):List Tz→Rf (BitVec 32)
 | x :: _=>nuB num kn x
 | []=>.ok 0
def n1B(kn:Kw):List Tz→Rf (BitVec 32)
 | _ :: y :: _=>nuB num kn y
 | _=>.ok 0
def hdB(l:List Tz)(nd:Int)(f:Tz→Int→Rf (Bool×Int)):Rf (Bool×Int):=match l with | []=>.ok (false,nd) | x :: _=>f x nd
mutual
def sfT:Tz→Sf→Rf Sf
 | .mk k a s _ ps l,c=>
  if k = 6∨k = 7 then .ok { c with kn:=putsB c.kn (decide (k = 6)) ps }
  else if k = 10 then bndF (hdB l c.nd (exC num M fu D c.kn)) fun q=>.ok { c with nd:=q.2,kn:=c.kn.put s ⟨q.1,none⟩ }
  else if k = 8∨k = 9 then bndF (hdB l c.nd (exC num M fu D c.kn)) fun q=>if q.1=true∧k = 9 then .bad a 130 else .ok { c with nd:=q.2,ou:=c.ou ++ [(s,q.1,decide (k = 9))] }
  else if k = 11 then
   bndF (n0B num c.kn l) fun i=>bndF (n1B num c.kn l) fun j=>roB R a s (fun d=>sfTs 2 l d) (j.toNat - i.toNat) i c
  else .ok c
def sfTs:Nat→List Tz→Sf→Rf Sf
 | _,[],c=>.ok c
 | 0,x :: l,c=>bndF (sfT x c) fun d=>sfTs 0 l d
 | i+1,_ :: l,c=>sfTs i l c
end
end
mutual
def lnT:Tz→Fu→Fu
 | .mk k _ s _ ps l,fu=>if k = 12 then (fun t=>if t=s then some (ps,l) else fu t) else if k = 11 then lnTs 2 l fu else fu
def lnTs:Nat→List Tz→Fu→Fu
 | _,[],fu=>fu
 | 0,x :: l,fu=>lnTs 0 l (lnT x fu)
 | i+1,_ :: l,fu=>lnTs i l fu
end
def init:Sf:={ kn:=fun _=>none,rd:=0,nd:=0,ou:=[] }
def fuz(z:Tz):Fu:=lnTs 0 (lz z) fun _=>none
def flB(num:Num)(M:Int)(D R:Nat)(z:Tz):Rf Sf:=sfTs num M D R (fuz z) 0 (lz z) init
/-! Without secret inputs. -/
def NoK(kn:Kw):Prop:=∀ s m,kn s=some m→m.sec=false
theorem NoK.sec{kn:Kw}(h:NoK kn)(s:Bs):secB kn s=false:=by
 unfold secB;cases hk:kn s with
 | none=>rfl
 | some m=>exact h s m hk
theorem NoK.put{kn:Kw}(h:NoK kn)(s:Bs){m:Wk}(hm:m.sec=false):NoK (kn.put s m):=fun t m' ht=>by
 unfold Kw.put at ht;by_cases e:t=s
 ·rw [if_pos e] at ht;cases ht;exact hm
 ·rw [if_neg e] at ht;exact h t m' ht
def NoR{α:Type}(P:α→Prop):Rf α→Prop | .ok x=>P x | .bad _ e=>e≠130
theorem NoR.bnd{α β:Type}{P:α→Prop}{Q:β→Prop}{r:Rf α}{f:α→Rf β}(h:NoR P r)(hf:∀ x,P x→NoR Q (f x)):NoR Q (bndF r f):=by
 cases r with
 | ok x=>exact hf x h
 | bad a e=>exact h
def AllNo(bs:List Bool):Prop:=∀ b∈bs,b=false
theorem AllNo.any{bs:List Bool}(h:AllNo bs):bs.any id=false:=by
 rw [List.any_eq_false];intro b hb;rw [h b hb];decide
section
variable {num : Num} {M : Int} {D R : Nat} {fu : Fu}
end
/-! Where more inputs are secret. -/
def LeK(k1 k2:Kw):Prop:=∀ s,(k1 s=none∧k2 s=none)∨∃ m1 m2,k1 s=some m1∧k2 s=some m2∧m1.loo=m2.loo∧(m1.sec=true→m2.sec=true)
theorem LeK.sec{k1 k2:Kw}(h:LeK k1 k2)(s:Bs)(hs:secB k1 s=true):secB k2 s=true:=by
 unfold secB at hs ⊢;rcases h s with ⟨h1,h2⟩ | ⟨m1,m2,h1,h2,_,h4⟩
 ·rw [h1] at hs;cases hs
 ·rw [h1] at hs;rw [h2];exact h4 hs
theorem LeK.put{k1 k2:Kw}(h:LeK k1 k2)(s:Bs){m1 m2:Wk}(hl:m1.loo=m2.loo)(hs:m1.sec=true→m2.sec=true):LeK (k1.put s m1) (k2.put s m2):=fun t=>by
 unfold Kw.put;by_cases e:t=s
 ·rw [if_pos e,if_pos e];exact .inr ⟨m1,m2,rfl,rfl,hl,hs⟩
 ·rw [if_neg e,if_neg e];exact h t
theorem LeK.refl(k:Kw):LeK k k:=fun s=>by
 cases hk:k s with
 | none=>exact .inl ⟨rfl,rfl⟩
 | some m=>exact .inr ⟨m,m,rfl,rfl,rfl,fun h=>h⟩
def LeR{α:Type}(P:α→α→Prop)(r1 r2:Rf α):Prop:=∀ y,r2 = .ok y→∃ x,r1 = .ok x∧P x y
theorem LeR.bnd{α β:Type}{P:α→α→Prop}{Q:β→β→Prop}{r1 r2:Rf α}{f1 f2:α→Rf β}(h:LeR P r1 r2)(hf:∀ x y,P x y→LeR Q (f1 x) (f2 y)):LeR Q (bndF r1 f1) (bndF r2 f2):=fun z hz=>by
 cases r2 with
 | bad a e=>cases hz
 | ok y=>
  obtain ⟨x,hx,hp⟩:=h y rfl;rw [hx];exact hf x y hp z hz
theorem LeR.ok{α:Type}{P:α→α→Prop}{x y:α}(h:P x y):LeR P (.ok x) (.ok y):=fun z hz=>by
 cases hz;exact ⟨x,rfl,h⟩
theorem LeR.bad{α:Type}{P:α→α→Prop}{r:Rf α}{a:Int}{e:Nat}:LeR P r (.bad a e):=fun z hz=>by cases hz
def LeB:List Bool→List Bool→Prop
 | [],[]=>True
 | b :: l,b' :: l'=>(b=true→b'=true)∧LeB l l'
 | _,_=>False
theorem LeB.any:∀ {l l':List Bool},LeB l l'→l.any id=true→l'.any id=true
 | [],[],_,h=>h
 | b :: l,b' :: l',h,ha=>by
  rw [List.any_cons,Bool.or_eq_true] at ha ⊢;rcases ha with ha | ha
  ·exact .inl (h.1 ha)
  ·exact .inr (LeB.any h.2 ha)
 | [],_ :: _,h,_=>h.elim
 | _ :: _,[],h,_=>h.elim
section
variable {num : Num} {M : Int} {D R : Nat} {fu : Fu}
end
def arB(fu:Fu)(s:Bs)(m:Nat):Bool:=match fu s with | some f=>decide (m≤f.1.length) | none=>false
mutual
def okC(fu:Fu):Tz→Prop
 | .mk k _ s _ _ l=>(k = 5→s≠sel→arB fu s l.length=true)∧okCs fu l
def okCs(fu:Fu):List Tz→Prop
 | []=>True
 | x :: l=>okC fu x∧okCs fu l
end
theorem okCs_take{fu:Fu}:∀ (i:Nat) {l:List Tz},okCs fu l→okCs fu (l.take i)
 | 0,l,h=>by simp [okCs]
 | i+1,[],h=>by simp [okCs]
 | i+1,x :: l,h=>by
  unfold okCs at h;rw [List.take_succ_cons];unfold okCs;exact ⟨h.1,okCs_take i h.2⟩
theorem okCs_at{fu:Fu}:∀ {l:List Tz},okCs fu l→∀ {i:Nat} {x:Tz},l[i]?=some x→okC fu x
 | [],_,i,x,h=>by simp at h
 | y :: l,h,0,x,hx=>by
  have:y=x:=by simpa using hx
  subst this;unfold okCs at h;exact h.1
 | y :: l,h,i+1,x,hx=>by
  unfold okCs at h;exact okCs_at h.2 (by simpa using hx)
theorem okC_parts{fu:Fu}{k a:Int}{s:Bs}{n:Nat}{ps:List Bs}{l:List Tz}(h:okC fu (.mk k a s n ps l)):(k = 5→s≠sel→arB fu s l.length=true)∧okCs fu l:=by unfold okC at h;exact h
mutual
def okS(fu:Fu):Tz→Prop
 | .mk k _ _ _ _ l=>(k = 12∨k = 10∨k = 8∨k = 9→okCs fu (l.take 1))∧(k = 11→okSs fu 2 l)
def okSs(fu:Fu):Nat→List Tz→Prop
 | _,[]=>True
 | 0,x :: l=>okS fu x∧okSs fu 0 l
 | i+1,_ :: l=>okSs fu i l
end
theorem okSs_drop{fu:Fu}:∀ (i:Nat) {l:List Tz},okSs fu i l→okSs fu 0 (l.drop i)
 | 0,l,h=>h
 | i+1,[],h=>by simp [okSs]
 | i+1,x :: l,h=>by unfold okSs at h;rw [List.drop_succ_cons];exact okSs_drop i h
theorem okSs_at{fu:Fu}:∀ {l:List Tz},okSs fu 0 l→∀ {i:Nat} {x:Tz},l[i]?=some x→okS fu x
 | [],_,i,x,h=>by simp at h
 | y :: l,h,0,x,hx=>by
  have:y=x:=by simpa using hx
  subst this;unfold okSs at h;exact h.1
 | y :: l,h,i+1,x,hx=>by
  unfold okSs at h;exact okSs_at h.2 (by simpa using hx)
theorem okS_parts{fu:Fu}{k a:Int}{s:Bs}{n:Nat}{ps:List Bs}{l:List Tz}(h:okS fu (.mk k a s n ps l)):(k = 12∨k = 10∨k = 8∨k = 9→okCs fu (l.take 1))∧(k = 11→okSs fu 2 l):=by unfold okS at h;exact h
def Jf(kn:Kn)(fu:Fu):Prop:=∀ s p,s≠sel→kn s=some (1,p)→∃ f,fu s=some f∧f.1.length=p
def Kf(kn:Kn)(fu fu':Fu):Prop:=∀ s p,kn s=some (1,p)→fu' s=fu s
theorem Jf.put{kn:Kn}{fu:Fu}(h:Jf kn fu){s:Bs}{m:Nat×Nat}(hm:m.1≠1):Jf (kn.put s m) fu:=fun t p ht hk=>by
 unfold Kn.put at hk;by_cases e:t=s
 ·rw [if_pos e] at hk;cases hk;exact absurd rfl hm
 ·rw [if_neg e] at hk;exact h t p ht hk
theorem Jf.in_{a:Int}{fu:Fu}:∀ {ps:List Bs} {c d:St},inB a ps c = .ok d→Jf c.kn fu→Jf d.kn fu
 | [],c,d,h,hj=>by unfold inB at h;cases h;exact hj
 | s :: l,c,d,h,hj=>by
  unfold inB at h;by_cases hb:namedB c.kn s=true
  ·rw [if_pos hb] at h;cases h
  ·rw [if_neg hb] at h;exact Jf.in_ h (show Jf (c.kn.put s (0,0)) fu from hj.put (by decide))
theorem Jf.dels{kn:Kn}{fu:Fu}(h:Jf kn fu)(l:List Bs):Jf (kn.dels l) fu:=fun t p ht hk=>by
 unfold Kn.dels at hk;by_cases e:t∈l
 ·rw [if_pos e] at hk;cases hk
 ·rw [if_neg e] at hk;exact h t p ht hk
theorem Kf.refl(kn:Kn)(fu:Fu):Kf kn fu fu:=fun _ _ _=>rfl
theorem Kf.trans{c d:St}{f1 f2 f3:Fu}(h:Kf c.kn f1 f2)(he:Ext c d)(h':Kf d.kn f2 f3):Kf c.kn f1 f3:=fun s p hs=>(h' s p (he.kn s _ hs)).trans (h s p hs)
mutual
theorem ln_ok:∀ {z:Tz} {c d:St} {fu:Fu},stB z c = .ok d→Sorts c.kn→Jf c.kn fu→Jf d.kn (lnT z fu)∧Kf c.kn fu (lnT z fu)
 | .mk k a s n ps l,c,d,fu,h,hs,hj=>by
  unfold stB at h;unfold lnT;by_cases h6:k = 6
  ·rw [if_pos h6] at h;rw [if_neg (by omega),if_neg (by omega)];obtain ⟨c1,h1,h2⟩:=bnd_ok h;cases h2;exact ⟨show Jf c1.kn fu from Jf.in_ h1 hj,Kf.refl _ _⟩
  rw [if_neg h6] at h;by_cases h7:k = 7
  ·rw [if_pos h7] at h;rw [if_neg (by omega),if_neg (by omega)];obtain ⟨c1,h1,h2⟩:=bnd_ok h;cases h2;exact ⟨show Jf c1.kn fu from Jf.in_ h1 hj,Kf.refl _ _⟩
  rw [if_neg h7] at h;by_cases h12:k = 12
  ·rw [if_pos h12] at h;rw [if_pos h12];by_cases hb:namedB c.kn s=true
   ·rw [if_pos hb] at h;cases h
   rw [if_neg hb] at h;by_cases hp:paB c.kn s [] ps=false
   ·rw [if_pos hp] at h;cases h
   rw [if_neg hp] at h;obtain ⟨_,h2⟩:=exR_ok h;cases h2;have hn:=namedB_no hb;refine ⟨fun t p ht hk=>?_,fun t p hk=>?_⟩
   ·have hk':(if t=s then some (1,ps.length) else c.kn t)=some (1,p):=hk;dsimp only;by_cases e:t=s
    ·rw [if_pos e] at hk' ⊢;cases hk';exact ⟨_,rfl,rfl⟩
    ·rw [if_neg e] at hk' ⊢;exact hj t p ht hk'
   ·dsimp only;rw [if_neg (fun e=>by subst e;rw [hn] at hk;cases hk)]
  rw [if_neg h12] at h;rw [if_neg h12];by_cases h10:k = 10
  ·rw [if_pos h10] at h;rw [if_neg (by omega)];obtain ⟨_,h2⟩:=exR_ok h;by_cases hb:isB c.kn s [0,1,3]=true
   ·rw [if_pos hb] at h2;cases h2
   rw [if_neg hb] at h2;by_cases hv:isB c.kn s [2]=true
   ·rw [if_pos hv] at h2;cases h2;exact ⟨hj,Kf.refl _ _⟩
   rw [if_neg hv] at h2;cases h2;exact ⟨show Jf (c.kn.put s (2,0)) fu from hj.put (by decide),Kf.refl _ _⟩
  rw [if_neg h10] at h;by_cases h8:k = 8∨k = 9
  ·rw [if_pos h8] at h;rw [if_neg (by omega)];obtain ⟨_,h2⟩:=exR_ok h;by_cases hb:(c.ou.map (·.1)).contains s=true
   ·rw [if_pos hb] at h2;cases h2
   rw [if_neg hb] at h2;cases h2;exact ⟨hj,Kf.refl _ _⟩
  rw [if_neg h8] at h;by_cases h11:k = 11
  ·rw [if_pos h11] at h;rw [if_pos h11];obtain ⟨_,h2⟩:=exR_ok h;by_cases hb:namedB c.kn s=true
   ·rw [if_pos hb] at h2;cases h2
   rw [if_neg hb] at h2;obtain ⟨c1,h3,h4⟩:=bnd_ok h2;cases h4;obtain ⟨g1,g2⟩:=lns_ok h3 (show Sorts (c.kn.put s (3,0)) from hs.put (by decide)) (show Jf (c.kn.put s (3,0)) fu from hj.put (by decide));refine ⟨show Jf (c1.kn.dels _) _ from g1.dels _,fun t p hk=>g2 t p ?_⟩;show (if t=s then some (3,0) else c.kn t)=_;rw [if_neg (fun e=>by subst e;rw [namedB_no hb] at hk;cases hk)];exact hk
  rw [if_neg h11] at h;rw [if_neg h11];cases h;exact ⟨hj,Kf.refl _ _⟩
theorem lns_ok:∀ {i:Nat} {l:List Tz} {c d:St} {fu:Fu},stBs i l c = .ok d→Sorts c.kn→Jf c.kn fu→Jf d.kn (lnTs i l fu)∧Kf c.kn fu (lnTs i l fu)
 | i,[],c,d,fu,h,hs,hj=>by
  rw [stBs_nil] at h;cases h;cases i <;> (unfold lnTs;exact ⟨hj,Kf.refl _ _⟩)
 | 0,x :: l,c,d,fu,h,hs,hj=>by
  rw [stBs_cons] at h;obtain ⟨c1,h1,h2⟩:=bnd_ok h;obtain ⟨g1,g2⟩:=ln_ok h1 hs hj;obtain ⟨x1,x2⟩:=stB_ext h1 hs;obtain ⟨g3,g4⟩:=lns_ok h2 x2 g1;unfold lnTs;exact ⟨g3,g2.trans x1 g4⟩
 | i+1,x :: l,c,d,fu,h,hs,hj=>by
  unfold stBs at h;unfold lnTs;exact lns_ok h hs hj
end
def Arf(kn:Kn)(fu:Fu):Prop:=∀ s p,s≠sel→kn s=some (1,p)→arB fu s p=true
theorem call_ar{kn:Kn}{fu:Fu}(h:Arf kn fu){s:Bs}{p:Nat}(hs:s≠sel)(hc:¬ callB kn s p=false):arB fu s p=true:=by
 unfold callB at hc;cases hk:kn s with
 | none=>rw [hk] at hc;exact absurd rfl hc
 | some m=>
  rw [hk] at hc;obtain ⟨m1,m2⟩:=m;simp at hc;obtain ⟨rfl,rfl⟩:=hc;exact h s _ hs hk
mutual
theorem ex_ok{isN:Bs→Bool}{kn:Kn}{fu:Fu}(h:Arf kn fu):∀ (z:Tz),exB isN (callB kn) z=none→okC fu z
 | .mk k a s n ps l,he=>by
  unfold exB at he;unfold okC;by_cases hc:(k = 1∧isN s=false)∨(k = 5∧callB kn s l.length=false)
  ·rw [if_pos hc] at he;cases he
  ·rw [if_neg hc] at he;exact ⟨fun hk hs=>call_ar h hs fun hh=>hc (.inr ⟨hk,hh⟩),exs_ok h l he⟩
theorem exs_ok{isN:Bs→Bool}{kn:Kn}{fu:Fu}(h:Arf kn fu):∀ (l:List Tz),exBs isN (callB kn) l=none→okCs fu l
 | [],he=>by unfold okCs;trivial
 | x :: l,he=>by
  unfold exBs at he;unfold okCs;cases hx:exB isN (callB kn) x with
  | some a=>rw [hx] at he;cases he
  | none=>rw [hx] at he;exact ⟨ex_ok h x hx,exs_ok h l he⟩
end
theorem Arf.ext{c d:St}{fu:Fu}(h:Arf d.kn fu)(he:Ext c d):Arf c.kn fu:=fun s p hs hk=>h s p hs (he.kn s _ hk)
theorem dels_fn{c d:St}(h:Ext c d){n:Nat}(hn:n=c.en.length){s:Bs}{p:Nat}(hk:d.kn s=some (1,p)):d.kn.dels (d.en.drop n) s=some (1,p):=by
 subst hn;obtain ⟨e,h1,h2,_⟩:=h.en;have hd:d.en.drop c.en.length=e:=by rw [h1];simp
 rw [hd];unfold Kn.dels;rw [if_neg (fun hm=>by
  obtain ⟨_,m,h3,h4⟩:=h2 s hm;rw [hk] at h3;cases h3;exact h4 rfl)]
 exact hk
mutual
theorem st_ok{fu:Fu}:∀ {z:Tz} {c d:St},stB z c = .ok d→Sorts c.kn→Arf d.kn fu→okS fu z
 | .mk k a s n ps l,c,d,h,hs,hj=>by
  have hx:=(stB_ext h hs).1;unfold stB at h;unfold okS;by_cases h6:k = 6
  ·exact ⟨fun h=>by omega,fun h=>by omega⟩
  rw [if_neg h6] at h;by_cases h7:k = 7
  ·exact ⟨fun h=>by omega,fun h=>by omega⟩
  rw [if_neg h7] at h;by_cases h12:k = 12
  ·rw [if_pos h12] at h;by_cases hb:namedB c.kn s=true
   ·rw [if_pos hb] at h;cases h
   rw [if_neg hb] at h;by_cases hp:paB c.kn s [] ps=false
   ·rw [if_pos hp] at h;cases h
   rw [if_neg hp] at h;exact ⟨fun _=>exs_ok (hj.ext hx) _ (exR_ok h).1,fun h=>by omega⟩
  rw [if_neg h12] at h;by_cases h10:k = 10
  ·rw [if_pos h10] at h;exact ⟨fun _=>exs_ok (hj.ext hx) _ (exR_ok h).1,fun h=>by omega⟩
  rw [if_neg h10] at h;by_cases h8:k = 8∨k = 9
  ·rw [if_pos h8] at h;exact ⟨fun _=>exs_ok (hj.ext hx) _ (exR_ok h).1,fun h=>by omega⟩
  rw [if_neg h8] at h;by_cases h11:k = 11
  ·rw [if_pos h11] at h;obtain ⟨_,h2⟩:=exR_ok h;by_cases hb:namedB c.kn s=true
   ·rw [if_pos hb] at h2;cases h2
   rw [if_neg hb] at h2;obtain ⟨c1,h3,h4⟩:=bnd_ok h2;have h5:=(stBs_ext h3 (show Sorts (c.kn.put s (3,0)) from hs.put (by decide))).1;have h0:=(Ext.new (d:={ c with kn:=c.kn.put s (3,0),en:=c.en ++ [s] }) (namedB_no hb) (by decide) rfl rfl).trans h5;refine ⟨fun h=>by omega,fun _=>sts_ok h3 (show Sorts (c.kn.put s (3,0)) from hs.put (by decide)) fun t p ht hk=>?_⟩;cases h4;exact hj t p ht (dels_fn h0 rfl hk)
  exact ⟨fun h=>by omega,fun h=>by omega⟩
theorem sts_ok{fu:Fu}:∀ {i:Nat} {l:List Tz} {c d:St},stBs i l c = .ok d→Sorts c.kn→Arf d.kn fu→okSs fu i l
 | i,[],c,d,h,hs,hj=>by cases i <;> (unfold okSs;trivial)
 | 0,x :: l,c,d,h,hs,hj=>by
  rw [stBs_cons] at h;obtain ⟨c1,h1,h2⟩:=bnd_ok h;obtain ⟨x1,x2⟩:=stB_ext h1 hs;have x3:=(stBs_ext h2 x2).1;unfold okSs;exact ⟨st_ok h1 hs (hj.ext x3),sts_ok h2 x2 hj⟩
 | i+1,x :: l,c,d,h,hs,hj=>by
  unfold stBs at h;unfold okSs;exact sts_ok h hs hj
end
def okF(fu ff:Fu):Prop:=∀ s f,ff s=some f→okCs fu (f.2.take 1)
mutual
theorem lnF{fu:Fu}:∀ (z:Tz) {ff:Fu},okS fu z→okF fu ff→okF fu (lnT z ff)
 | .mk k a s n ps l,ff,h,hf=>by
  obtain ⟨h1,h2⟩:=okS_parts h;unfold lnT;by_cases h12:k = 12
  ·rw [if_pos h12];intro t f ht;dsimp only at ht;by_cases e:t=s
   ·rw [if_pos e] at ht;cases ht;exact h1 (.inl h12)
   ·rw [if_neg e] at ht;exact hf t f ht
  rw [if_neg h12];by_cases h11:k = 11
  ·rw [if_pos h11];exact lnFs 2 l (h2 h11) hf
  ·rw [if_neg h11];exact hf
theorem lnFs{fu:Fu}:∀ (i:Nat) (l:List Tz) {ff:Fu},okSs fu i l→okF fu ff→okF fu (lnTs i l ff)
 | i,[],ff,h,hf=>by cases i <;> (unfold lnTs;exact hf)
 | 0,x :: l,ff,h,hf=>by
  unfold okSs at h;unfold lnTs;exact lnFs 0 l h.2 (lnF x h.1 hf)
 | i+1,x :: l,ff,h,hf=>by
  unfold okSs at h;unfold lnTs;exact lnFs i l h hf
end
theorem ck_ar{z:Tz}{d:St}(h:ckB z = .ok d):okSs (fuz z) 0 (lz z)∧okF (fuz z) (fuz z):=by
 have hs:Sorts Nm.init.kn:=fun s m hm=>by
  have hm':(if s=sel then some (1,3) else none)=some m:=hm;by_cases e:s=sel
  ·rw [if_pos e] at hm';cases hm';decide
  ·rw [if_neg e] at hm';cases hm'
 have hj:Jf Nm.init.kn (fun _=>none):=fun s p ht hk=>by
  have hm':(if s=sel then some (1,3) else none)=some (1,p):=hk;rw [if_neg ht] at hm';cases hm'
 obtain ⟨g1,_⟩:=lns_ok (i:=0) (l:=lz z) (fu:=fun _=>none) h hs hj;have ha:Arf d.kn (fuz z):=fun s p ht hk=>by
  obtain ⟨f,h1,h2⟩:=g1 s p ht hk;unfold arB fuz;rw [h1];simp [h2]
 have h1:=sts_ok (i:=0) (l:=lz z) h hs ha;exact ⟨h1,lnFs 0 (lz z) h1 fun s f hf=>by cases hf⟩
def Dm(k1 k2:Kw):Prop:=∀ s,(k1 s).isSome=true→(k2 s).isSome=true
end Go.Proofs.YtdhoemlomojfaaaGreatDoor.Fl
