/- DERIVED. FlSpec, PaSk, PaMo. By an AI agent. -/
import Derived.Test.YtcgibpdjfgjldaaGreatDoorQ02
import Derived.Test.YtcgibpdjfgjldaaGreatDoorQ01
set_option linter.unusedVariables false
set_option linter.unusedSimpArgs false
namespace Go.Proofs.YtcgibpdjfgjldaaGreatDoor.Fl
open Lx Pa Sh Go.Proofs.YtcgibpdjfgjldaaGreatDoor.Nm
structure Wk where
 sec:Bool
 loo:Option (BitVec 32)
abbrev Kw:=Bs→Option Wk
def Kw.put(kn:Kw)(s:Bs)(m:Wk):Kw:=fun t=>if t=s then some m else kn t
def secB(kn:Kw)(s:Bs):Bool:=match kn s with | some m=>m.sec | none=>false
abbrev Lo:=Bs→Option (BitVec 32)
def looB(kn:Kw):Lo:=fun s=>match kn s with | some m=>m.loo | none=>none
inductive Rf(α:Type)
 | ok (x:α)
 | bad (a:Int) (er:Nat)
def bndF{α β:Type}(r:Rf α)(f:α→Rf β):Rf β:=match r with | .ok x=>f x | .bad a e=>.bad a e
def sgU:List Bs:=[[126],[45]]
def sgB:List Bs:=[[43],[45],[38],[124],[94]]
def sgS:List Bs:=[[60,60],[62,62],[60,60,60]]
def fitB(lo:Lo)(k:Int)(s:Bs)(m:Nat):Bool:=
 if k = 0 then true else if k = 1 then (lo s).isSome else if k = 2 then decide (m = 1) && sgU.contains s else if k = 3 then decide (m = 2) && sgB.contains s else if k = 4 then decide (m = 2) && sgS.contains s else false
mutual
def strB(lo:Lo):Tz→Option (Int×Int×Bs)
 | .mk k a s _ _ l=>if fitB lo k s l.length=true then strBs lo l else some (k,a,s)
def strBs(lo:Lo):List Tz→Option (Int×Int×Bs)
 | []=>none
 | x :: l=>match strB lo x with | some e=>some e | none=>strBs lo l
end
abbrev Num:=Lo→Tz→BitVec 32
def badB(kn:Kw)(e:Int×Int×Bs):Nat:=if e.1 = 1∧secB kn e.2.2=true then 130 else 120
def nuB(num:Num)(kn:Kw)(z:Tz):Rf (BitVec 32):=match strB (looB kn) z with | some e=>.bad e.2.1 (badB kn e) | none=>.ok (num (looB kn) z)
def nx(nd:Int):Int:=(nd+1+9223372036854775808) % 18446744073709551616 - 9223372036854775808
def seqB(f:Tz→Int→Rf (Bool×Int)):List Tz→Int→Rf (List Bool×Int)
 | [],nd=>.ok ([],nd)
 | x :: l,nd=>bndF (f x nd) fun q=>bndF (seqB f l q.2) fun r=>.ok (q.1 :: r.1,r.2)
abbrev Fu:=Bs→Option (List Bs×List Tz)
def parB:List Bs→List Bool→Kw
 | p :: ps,b :: bs=>fun t=>match parB ps bs t with | some m=>some m | none=>if t=p then some ⟨b,none⟩ else none
 | _,_=>fun _=>none
abbrev Sub:=Kw→Tz→Int→Rf (Bool×Int)
def calB(fu:Fu)(sub:Sub)(s:Bs)(q:List Bool×Int):Rf (Bool×Int):=
 if s=sel then .ok (q.1.any id,q.2) else match fu s with
  | none=>.ok (false,q.2)
  | some f=>bndF (seqB (sub (parB f.1 q.1)) (f.2.take 1) q.2) fun r=>.ok (r.1.any id,r.2)
section
variable (num : Num) (M : Int) (fu : Fu)
mutual
def exT(deep:Bool)(sub:Sub)(kn:Kw):Tz→Int→Rf (Bool×Int)
 | .mk k a s _ _ l,nd=>
  if k = 5 then (if M < nx nd∨deep=true then .bad a 150 else bndF (seqB (sub kn) l (nx nd)) fun q=>calB fu sub s q)
  else if k = 4 then exS deep sub kn l (nx nd)
  else bndF (exTs deep sub kn l (nx nd)) fun q=>.ok (if k = 1 then secB kn s else if k = 2∨k = 3 then q.1.any id else false,q.2)
def exS(deep:Bool)(sub:Sub)(kn:Kw):List Tz→Int→Rf (Bool×Int)
 | [],nd=>.ok (false,nd)
 | x :: l,nd=>bndF (match l with | []=>.ok 0 | y :: _=>nuB num kn y) fun _=>exT deep sub kn x nd
def exTs(deep:Bool)(sub:Sub)(kn:Kw):List Tz→Int→Rf (List Bool×Int)
 | [],nd=>.ok ([],nd)
 | x :: l,nd=>bndF (exT deep sub kn x nd) fun q=>bndF (exTs deep sub kn l q.2) fun r=>.ok (q.1 :: r.1,r.2)
end
def exC:Nat→Sub
 | 0=>exT num M fu true fun _ _ nd=>.ok (false,nd)
 | c+1=>exT num M fu false (exC c)
end
structure Sf where
 kn:Kw
 rd:Nat
 nd:Int
 ou:List (Bs×Bool×Bool)
def putsB(kn:Kw)(b:Bool):List Bs→Kw
 | []=>kn
 | s :: l=>putsB (kn.put s ⟨b,none⟩) b l
def cutB(kn kn':Kw):Kw:=fun t=>if (kn t).isSome=true then kn' t else none
def roB(R:Nat)(a:Int)(s:Bs)(body:Sf→Rf Sf):Nat→BitVec 32→Sf→Rf Sf
 | 0,_,c=>.ok c
 | n+1,i,c=>if R < c.rd+1 then .bad a 150 else bndF (body { c with rd:=c.rd+1,kn:=c.kn.put s ⟨false,some i⟩ }) fun d=>roB R a s body n (i+1) { d with kn:=cutB c.kn d.kn }
section
variable (num : Num) (M : Int) (D R : Nat) (fu : Fu)
def n0B(kn:Kw):List Tz→Rf (BitVec 32)
 | x :: _=>nuB num kn x
 | []=>.ok 0
def n1B(kn:Kw):List Tz→Rf (BitVec 32)
 | _ :: y :: _=>nuB num kn y
 | _=>.ok 0
def hdB(l:List Tz)(nd:Int)(f:Tz→Int→Rf (Bool×Int)):Rf (Bool×Int):=match l with | []=>.ok (false,nd) | x :: _=>f x nd
mutual
def sfT:Tz→Sf→Rf Sf
 | .mk k a s _ ps l,c=>
  if k = 6∨k = 7 then .ok { c with kn:=putsB c.kn (decide (k = 6)) ps }
  else if k = 10 then bndF (hdB l c.nd (exC num M fu D c.kn)) fun q=>.ok { c with nd:=q.2,kn:=c.kn.put s ⟨q.1,none⟩ }
  else if k = 8∨k = 9 then bndF (hdB l c.nd (exC num M fu D c.kn)) fun q=>if q.1=true∧k = 9 then .bad a 130 else .ok { c with nd:=q.2,ou:=c.ou ++ [(s,q.1,decide (k = 9))] }
  else if k = 11 then
   bndF (n0B num c.kn l) fun i=>bndF (n1B num c.kn l) fun j=>roB R a s (fun d=>sfTs 2 l d) (j.toNat - i.toNat) i c
  else .ok c
def sfTs:Nat→List Tz→Sf→Rf Sf
 | _,[],c=>.ok c
 | 0,x :: l,c=>bndF (sfT x c) fun d=>sfTs 0 l d
 | i+1,_ :: l,c=>sfTs i l c
end
end
mutual
def lnT:Tz→Fu→Fu
 | .mk k _ s _ ps l,fu=>if k = 12 then (fun t=>if t=s then some (ps,l) else fu t) else if k = 11 then lnTs 2 l fu else fu
def lnTs:Nat→List Tz→Fu→Fu
 | _,[],fu=>fu
 | 0,x :: l,fu=>lnTs 0 l (lnT x fu)
 | i+1,_ :: l,fu=>lnTs i l fu
end
def init:Sf:={ kn:=fun _=>none,rd:=0,nd:=0,ou:=[] }
def fuz(z:Tz):Fu:=lnTs 0 (lz z) fun _=>none
def flB(num:Num)(M:Int)(D R:Nat)(z:Tz):Rf Sf:=sfTs num M D R (fuz z) 0 (lz z) init
/-! Without secret inputs. -/
def NoK(kn:Kw):Prop:=∀ s m,kn s=some m→m.sec=false
theorem NoK.sec{kn:Kw}(h:NoK kn)(s:Bs):secB kn s=false:=by
 unfold secB;cases hk:kn s with
 | none=>rfl
 | some m=>exact h s m hk
theorem NoK.put{kn:Kw}(h:NoK kn)(s:Bs){m:Wk}(hm:m.sec=false):NoK (kn.put s m):=fun t m' ht=>by
 unfold Kw.put at ht;by_cases e:t=s
 ·rw [if_pos e] at ht;cases ht;exact hm
 ·rw [if_neg e] at ht;exact h t m' ht
def NoR{α:Type}(P:α→Prop):Rf α→Prop | .ok x=>P x | .bad _ e=>e≠130
theorem NoR.bnd{α β:Type}{P:α→Prop}{Q:β→Prop}{r:Rf α}{f:α→Rf β}(h:NoR P r)(hf:∀ x,P x→NoR Q (f x)):NoR Q (bndF r f):=by
 cases r with
 | ok x=>exact hf x h
 | bad a e=>exact h
theorem nu_no{num:Num}{kn:Kw}(h:NoK kn)(z:Tz):NoR (fun _=>True) (nuB num kn z):=by
 unfold nuB;cases he:strB (looB kn) z with
 | none=>trivial
 | some e=>
  show badB kn e≠130;unfold badB;rw [if_neg (fun hh=>by rw [h.sec] at hh;exact absurd hh.2 (by decide))];decide
def AllNo(bs:List Bool):Prop:=∀ b∈bs,b=false
theorem AllNo.any{bs:List Bool}(h:AllNo bs):bs.any id=false:=by
 rw [List.any_eq_false];intro b hb;rw [h b hb];decide
theorem seq_no{f:Tz→Int→Rf (Bool×Int)}(h:∀ z nd,NoR (fun q=>q.1=false) (f z nd)):∀ (l:List Tz) (nd:Int),NoR (fun q=>AllNo q.1) (seqB f l nd)
 | [],nd=>fun b hb=>by cases hb
 | x :: l,nd=>by
  unfold seqB;refine (h x nd).bnd fun q hq=>(seq_no h l q.2).bnd fun r hr b hb=>?_
  rcases List.mem_cons.1 hb with rfl | hb
  ·exact hq
  ·exact hr b hb
theorem par_no:∀ (ps:List Bs) (bs:List Bool),AllNo bs→NoK (parB ps bs)
 | [],_,_=>fun s m h=>by unfold parB at h;cases h
 | p :: ps,[],_=>fun s m h=>by unfold parB at h;cases h
 | p :: ps,b :: bs,hb=>fun s m h=>by
  unfold parB at h;cases hp:parB ps bs s with
  | some m'=>rw [hp] at h;cases h;exact par_no ps bs (fun b hb'=>hb b (List.mem_cons_of_mem _ hb')) s _ hp
  | none=>
   rw [hp] at h;by_cases e:s=p
   ·rw [if_pos e] at h;cases h;exact hb b (List.mem_cons_self ..)
   ·rw [if_neg e] at h;cases h
def NoC(sub:Sub):Prop:=∀ kn z nd,NoK kn→NoR (fun q=>q.1=false) (sub kn z nd)
theorem cal_no{fu:Fu}{sub:Sub}(hc:NoC sub)(s:Bs){q:List Bool×Int}(hq:AllNo q.1):NoR (fun q=>q.1=false) (calB fu sub s q):=by
 unfold calB;by_cases hs:s=sel
 ·rw [if_pos hs];exact hq.any
 rw [if_neg hs];cases fu s with
 | none=>rfl
 | some f=>exact (seq_no (fun z nd=>hc _ z nd (par_no _ _ hq)) _ _).bnd fun r hr=>hr.any
section
variable {num : Num} {M : Int} {D R : Nat} {fu : Fu}
mutual
theorem exT_no{kn:Kw}(h:NoK kn){deep:Bool}{sub:Sub}(hc:NoC sub):∀ (z:Tz) (nd:Int),NoR (fun q=>q.1=false) (exT num M fu deep sub kn z nd)
 | .mk k a s _ _ l,nd=>by
  unfold exT;by_cases h5:k = 5
  ·rw [if_pos h5];by_cases h1:M < nx nd∨deep=true
   ·rw [if_pos h1];show (150:Nat)≠130;decide
   rw [if_neg h1];exact (seq_no (fun z nd=>hc _ z nd h) _ _).bnd fun q hq=>cal_no hc s hq
  rw [if_neg h5];by_cases h4:k = 4
  ·rw [if_pos h4];exact exS_no h hc l _
  rw [if_neg h4];refine (exTs_no h hc l (nx nd)).bnd fun q hq=>?_
  show (if k = 1 then secB kn s else if k = 2∨k = 3 then q.1.any id else false)=false;rw [h.sec,hq.any];simp
theorem exS_no{kn:Kw}(h:NoK kn){deep:Bool}{sub:Sub}(hc:NoC sub):∀ (l:List Tz) (nd:Int),NoR (fun q=>q.1=false) (exS num M fu deep sub kn l nd)
 | [],nd=>by unfold exS;rfl
 | [x],nd=>by
  unfold exS;exact NoR.bnd (P:=fun _=>True) trivial fun _ _=>exT_no h hc x nd
 | x :: y :: l,nd=>by
  unfold exS;exact (nu_no h y).bnd fun _ _=>exT_no h hc x nd
theorem exTs_no{kn:Kw}(h:NoK kn){deep:Bool}{sub:Sub}(hc:NoC sub):∀ (l:List Tz) (nd:Int),NoR (fun q=>AllNo q.1) (exTs num M fu deep sub kn l nd)
 | [],nd=>by unfold exTs;exact fun b hb=>by cases hb
 | x :: l,nd=>by
  unfold exTs;refine (exT_no h hc x nd).bnd fun q hq=>(exTs_no h hc l q.2).bnd fun r hr b hb=>?_
  rcases List.mem_cons.1 hb with rfl | hb
  ·exact hq
  ·exact hr b hb
end
theorem exC_no:∀ (c:Nat),NoC (exC num M fu c)
 | 0=>fun kn z nd h=>by unfold exC;exact exT_no h (sub:=fun _ _ nd=>.ok (false,nd)) (fun _ _ nd _=>show NoR (fun q:Bool×Int=>q.1=false) (.ok (false,nd)) from rfl) z nd
 | c+1=>fun kn z nd h=>by unfold exC;exact exT_no h (exC_no c) z nd
theorem hd_no{l:List Tz}{nd:Int}{f:Tz→Int→Rf (Bool×Int)}(h:∀ x nd,NoR (fun q=>q.1=false) (f x nd)):NoR (fun q=>q.1=false) (hdB l nd f):=by
 cases l with
 | nil=>rfl
 | cons x l=>exact h x nd
mutual
def noS:Tz→Prop
 | .mk k _ _ _ _ l=>k≠6∧(k = 11→noSs l)
def noSs:List Tz→Prop
 | []=>True
 | x :: l=>noS x∧noSs l
end
def NoF(c:Sf):Prop:=NoK c.kn∧∀ o∈c.ou,o.2.1=false
theorem puts_no:∀ (ps:List Bs) {kn:Kw},NoK kn→NoK (putsB kn false ps)
 | [],_,h=>h
 | s :: l,_,h=>puts_no l (h.put s rfl)
theorem cut_no{kn kn':Kw}(h:NoK kn'):NoK (cutB kn kn'):=fun t m ht=>by
 unfold cutB at ht;by_cases e:(kn t).isSome=true
 ·rw [if_pos e] at ht;exact h t m ht
 ·rw [if_neg e] at ht;cases ht
theorem ro_no{a:Int}{s:Bs}{body:Sf→Rf Sf}(hb:∀ c,NoF c→NoR NoF (body c)):∀ (n:Nat) (i:BitVec 32) (c:Sf),NoF c→NoR NoF (roB R a s body n i c)
 | 0,i,c,h=>h
 | n+1,i,c,h=>by
  unfold roB;by_cases hr:R < c.rd+1
  ·rw [if_pos hr];show (150:Nat)≠130;decide
  ·rw [if_neg hr];exact (hb _ (show NoF { c with rd:=c.rd+1,kn:=c.kn.put s ⟨false,some i⟩ } from ⟨h.1.put s rfl,h.2⟩)).bnd fun d hd=>ro_no hb n (i+1) _ ⟨cut_no hd.1,hd.2⟩
mutual
theorem sfT_no:∀ (z:Tz),noS z→∀ (c:Sf),NoF c→NoR NoF (sfT num M D R fu z c)
 | .mk k a s n ps l,hz,c,h=>by
  unfold noS at hz;unfold sfT;by_cases h6:k = 6∨k = 7
  ·rw [if_pos h6];have:decide (k = 6)=false:=by simp [hz.1]
   rw [this];exact ⟨puts_no ps h.1,h.2⟩
  rw [if_neg h6];by_cases h10:k = 10
  ·rw [if_pos h10];exact (hd_no fun x nd=>exC_no D c.kn x nd h.1).bnd fun q hq=>⟨h.1.put s hq,h.2⟩
  rw [if_neg h10];by_cases h8:k = 8∨k = 9
  ·rw [if_pos h8];refine (hd_no fun x nd=>exC_no D c.kn x nd h.1).bnd fun q hq=>?_
   rw [if_neg (fun hh=>by rw [hq] at hh;exact absurd hh.1 (by decide))];refine ⟨h.1,fun o ho=>?_⟩;rcases List.mem_append.1 ho with ho | ho
   ·exact h.2 o ho
   ·rw [List.mem_singleton.1 ho];exact hq
  rw [if_neg h8];by_cases h11:k = 11
  ·rw [if_pos h11];have hi:NoR (fun _=>True) (n0B num c.kn l):=by
    cases l with
    | nil=>trivial
    | cons x l=>exact nu_no h.1 x
   have hj:NoR (fun _=>True) (n1B num c.kn l):=by
    cases l with
    | nil=>trivial
    | cons x l=>
     cases l with
     | nil=>trivial
     | cons y l=>exact nu_no h.1 y
   exact hi.bnd fun i _=>hj.bnd fun j _=>ro_no (fun d hd=>sfTs_no 2 l (hz.2 h11) d hd) _ _ c h
  ·rw [if_neg h11];exact h
theorem sfTs_no:∀ (i:Nat) (l:List Tz),noSs l→∀ (c:Sf),NoF c→NoR NoF (sfTs num M D R fu i l c)
 | _,[],_,c,h=>by unfold sfTs;exact h
 | 0,x :: l,hl,c,h=>by
  unfold noSs at hl;unfold sfTs;exact (sfT_no x hl.1 c h).bnd fun d hd=>sfTs_no 0 l hl.2 d hd
 | i+1,x :: l,hl,c,h=>by
  unfold noSs at hl;unfold sfTs;exact sfTs_no i l hl.2 c h
end
theorem fl_open{z:Tz}(hz:noSs (lz z)):NoR NoF (flB num M D R z):=sfTs_no 0 (lz z) hz init (show NoF init from ⟨fun s m h=>(by cases h),fun o ho=>(by cases ho)⟩)
end
/-! Where more inputs are secret. -/
def LeK(k1 k2:Kw):Prop:=∀ s,(k1 s=none∧k2 s=none)∨∃ m1 m2,k1 s=some m1∧k2 s=some m2∧m1.loo=m2.loo∧(m1.sec=true→m2.sec=true)
theorem LeK.loos{k1 k2:Kw}(h:LeK k1 k2):looB k1=looB k2:=funext fun s=>by
 unfold looB;rcases h s with ⟨h1,h2⟩ | ⟨m1,m2,h1,h2,h3,_⟩ <;> rw [h1,h2]
 exact h3
theorem LeK.sec{k1 k2:Kw}(h:LeK k1 k2)(s:Bs)(hs:secB k1 s=true):secB k2 s=true:=by
 unfold secB at hs ⊢;rcases h s with ⟨h1,h2⟩ | ⟨m1,m2,h1,h2,_,h4⟩
 ·rw [h1] at hs;cases hs
 ·rw [h1] at hs;rw [h2];exact h4 hs
theorem LeK.put{k1 k2:Kw}(h:LeK k1 k2)(s:Bs){m1 m2:Wk}(hl:m1.loo=m2.loo)(hs:m1.sec=true→m2.sec=true):LeK (k1.put s m1) (k2.put s m2):=fun t=>by
 unfold Kw.put;by_cases e:t=s
 ·rw [if_pos e,if_pos e];exact .inr ⟨m1,m2,rfl,rfl,hl,hs⟩
 ·rw [if_neg e,if_neg e];exact h t
theorem LeK.refl(k:Kw):LeK k k:=fun s=>by
 cases hk:k s with
 | none=>exact .inl ⟨rfl,rfl⟩
 | some m=>exact .inr ⟨m,m,rfl,rfl,rfl,fun h=>h⟩
def LeR{α:Type}(P:α→α→Prop)(r1 r2:Rf α):Prop:=∀ y,r2 = .ok y→∃ x,r1 = .ok x∧P x y
theorem LeR.bnd{α β:Type}{P:α→α→Prop}{Q:β→β→Prop}{r1 r2:Rf α}{f1 f2:α→Rf β}(h:LeR P r1 r2)(hf:∀ x y,P x y→LeR Q (f1 x) (f2 y)):LeR Q (bndF r1 f1) (bndF r2 f2):=fun z hz=>by
 cases r2 with
 | bad a e=>cases hz
 | ok y=>
  obtain ⟨x,hx,hp⟩:=h y rfl;rw [hx];exact hf x y hp z hz
theorem LeR.ok{α:Type}{P:α→α→Prop}{x y:α}(h:P x y):LeR P (.ok x) (.ok y):=fun z hz=>by
 cases hz;exact ⟨x,rfl,h⟩
theorem LeR.bad{α:Type}{P:α→α→Prop}{r:Rf α}{a:Int}{e:Nat}:LeR P r (.bad a e):=fun z hz=>by cases hz
theorem nu_le{num:Num}{k1 k2:Kw}(h:LeK k1 k2)(z:Tz):LeR (fun x y=>x=y) (nuB num k1 z) (nuB num k2 z):=fun y hy=>by
 unfold nuB at hy ⊢;rw [h.loos];cases he:strB (looB k2) z with
 | some e=>rw [he] at hy;cases hy
 | none=>rw [he] at hy;exact ⟨y,hy,rfl⟩
def LeQ(q1 q2:Bool×Int):Prop:=q1.2=q2.2∧(q1.1=true→q2.1=true)
def LeB:List Bool→List Bool→Prop
 | [],[]=>True
 | b :: l,b' :: l'=>(b=true→b'=true)∧LeB l l'
 | _,_=>False
theorem LeB.any:∀ {l l':List Bool},LeB l l'→l.any id=true→l'.any id=true
 | [],[],_,h=>h
 | b :: l,b' :: l',h,ha=>by
  rw [List.any_cons,Bool.or_eq_true] at ha ⊢;rcases ha with ha | ha
  ·exact .inl (h.1 ha)
  ·exact .inr (LeB.any h.2 ha)
 | [],_ :: _,h,_=>h.elim
 | _ :: _,[],h,_=>h.elim
def LeL(q q':List Bool×Int):Prop:=q.2=q'.2∧LeB q.1 q'.1
theorem seq_le{f1 f2:Tz→Int→Rf (Bool×Int)}(h:∀ z nd,LeR LeQ (f1 z nd) (f2 z nd)):∀ (l:List Tz) (nd:Int),LeR LeL (seqB f1 l nd) (seqB f2 l nd)
 | [],nd=>LeR.ok ⟨rfl,trivial⟩
 | x :: l,nd=>by
  unfold seqB;refine (h x nd).bnd fun q q' hq=>?_
  rw [hq.1];exact (seq_le h l q'.2).bnd fun r r' hr=>LeR.ok ⟨hr.1,hq.2,hr.2⟩
theorem par_le:∀ (ps:List Bs) (b1 b2:List Bool),LeB b1 b2→LeK (parB ps b1) (parB ps b2)
 | [],_,_,_=>fun s=>by unfold parB;exact .inl ⟨rfl,rfl⟩
 | p :: ps,[],[],_=>fun s=>by unfold parB;exact .inl ⟨rfl,rfl⟩
 | p :: ps,b :: l,b' :: l',h=>fun s=>by
  unfold parB;rcases par_le ps l l' h.2 s with ⟨h1,h2⟩ | ⟨m1,m2,h1,h2,h3,h4⟩
  ·rw [h1,h2];by_cases e:s=p
   ·rw [if_pos e,if_pos e];exact .inr ⟨_,_,rfl,rfl,rfl,h.1⟩
   ·rw [if_neg e,if_neg e];exact .inl ⟨rfl,rfl⟩
  ·rw [h1,h2];exact .inr ⟨m1,m2,rfl,rfl,h3,h4⟩
 | p :: ps,[],_ :: _,h=>h.elim
 | p :: ps,_ :: _,[],h=>h.elim
def LeC(c1 c2:Sub):Prop:=∀ k1 k2 z nd,LeK k1 k2→LeR LeQ (c1 k1 z nd) (c2 k2 z nd)
theorem cal_le{fu:Fu}{c1 c2:Sub}(hc:LeC c1 c2)(s:Bs){q q':List Bool×Int}(hq:LeL q q'):LeR LeQ (calB fu c1 s q) (calB fu c2 s q'):=by
 unfold calB;by_cases hs:s=sel
 ·rw [if_pos hs,if_pos hs];exact LeR.ok ⟨hq.1,hq.2.any⟩
 rw [if_neg hs,if_neg hs,hq.1];cases fu s with
 | none=>exact LeR.ok ⟨rfl,fun h=>h⟩
 | some f=>exact (seq_le (fun z nd=>hc _ _ z nd (par_le _ _ _ hq.2)) _ _).bnd fun r r' hr=>LeR.ok ⟨hr.1,hr.2.any⟩
section
variable {num : Num} {M : Int} {D R : Nat} {fu : Fu}
mutual
theorem exT_le{k1 k2:Kw}(h:LeK k1 k2){deep:Bool}{c1 c2:Sub}(hc:LeC c1 c2):∀ (z:Tz) (nd:Int),LeR LeQ (exT num M fu deep c1 k1 z nd) (exT num M fu deep c2 k2 z nd)
 | .mk k a s _ _ l,nd=>by
  unfold exT;by_cases h5:k = 5
  ·rw [if_pos h5,if_pos h5];by_cases h1:M < nx nd∨deep=true
   ·rw [if_pos h1,if_pos h1];exact LeR.bad
   rw [if_neg h1,if_neg h1];exact (seq_le (fun z nd=>hc _ _ z nd h) _ _).bnd fun q q' hq=>cal_le hc s hq
  rw [if_neg h5,if_neg h5];by_cases h4:k = 4
  ·rw [if_pos h4,if_pos h4];exact exS_le h hc l _
  rw [if_neg h4,if_neg h4];refine (exTs_le h hc l (nx nd)).bnd fun q q' hq=>LeR.ok ⟨hq.1,?_⟩
  show (if k = 1 then secB k1 s else if k = 2∨k = 3 then q.1.any id else false)=true→(if k = 1 then secB k2 s else if k = 2∨k = 3 then q'.1.any id else false)=true;by_cases hk:k = 1
  ·rw [if_pos hk,if_pos hk];exact h.sec s
  rw [if_neg hk,if_neg hk];by_cases hk:k = 2∨k = 3
  ·rw [if_pos hk,if_pos hk];exact hq.2.any
  ·rw [if_neg hk,if_neg hk];exact fun h=>h
theorem exS_le{k1 k2:Kw}(h:LeK k1 k2){deep:Bool}{c1 c2:Sub}(hc:LeC c1 c2):∀ (l:List Tz) (nd:Int),LeR LeQ (exS num M fu deep c1 k1 l nd) (exS num M fu deep c2 k2 l nd)
 | [],nd=>by unfold exS;exact LeR.ok ⟨rfl,fun h=>h⟩
 | [x],nd=>by
  unfold exS;exact LeR.bnd (P:=fun x y=>x=y) (LeR.ok rfl) fun _ _ _=>exT_le h hc x nd
 | x :: y :: l,nd=>by
  unfold exS;exact (nu_le h y).bnd fun _ _ _=>exT_le h hc x nd
theorem exTs_le{k1 k2:Kw}(h:LeK k1 k2){deep:Bool}{c1 c2:Sub}(hc:LeC c1 c2):∀ (l:List Tz) (nd:Int),LeR LeL (exTs num M fu deep c1 k1 l nd) (exTs num M fu deep c2 k2 l nd)
 | [],nd=>by unfold exTs;exact LeR.ok ⟨rfl,trivial⟩
 | x :: l,nd=>by
  unfold exTs;refine (exT_le h hc x nd).bnd fun q q' hq=>?_
  rw [hq.1];exact (exTs_le h hc l q'.2).bnd fun r r' hr=>LeR.ok ⟨hr.1,hq.2,hr.2⟩
end
theorem exC_le:∀ (c:Nat),LeC (exC num M fu c) (exC num M fu c)
 | 0=>fun k1 k2 z nd h=>by unfold exC;exact exT_le h (c1:=fun _ _ nd=>.ok (false,nd)) (c2:=fun _ _ nd=>.ok (false,nd)) (fun _ _ _ _ _=>LeR.ok ⟨rfl,fun h=>h⟩) z nd
 | c+1=>fun k1 k2 z nd h=>by unfold exC;exact exT_le h (exC_le c) z nd
theorem hd_le{l:List Tz}{nd:Int}{f1 f2:Tz→Int→Rf (Bool×Int)}(h:∀ x nd,LeR LeQ (f1 x nd) (f2 x nd)):LeR LeQ (hdB l nd f1) (hdB l nd f2):=by
 cases l with
 | nil=>exact LeR.ok ⟨rfl,fun h=>h⟩
 | cons x l=>exact h x nd
def LeO:List (Bs×Bool×Bool)→List (Bs×Bool×Bool)→Prop
 | [],[]=>True
 | o :: l,o' :: l'=>(o.1=o'.1∧(o.2.1=true→o'.2.1=true))∧LeO l l'
 | _,_=>False
theorem LeO.app:∀ {l l':List (Bs×Bool×Bool)} {o o':Bs×Bool×Bool},LeO l l'→o.1=o'.1→(o.2.1=true→o'.2.1=true)→LeO (l ++ [o]) (l' ++ [o'])
 | [],[],o,o',_,h1,h2=>⟨⟨h1,h2⟩,trivial⟩
 | _ :: l,_ :: l',o,o',h,h1,h2=>⟨h.1,LeO.app h.2 h1 h2⟩
 | [],_ :: _,_,_,h,_,_=>h.elim
 | _ :: _,[],_,_,h,_,_=>h.elim
structure LeF(c d:Sf):Prop where
 kn:LeK c.kn d.kn
 rd:c.rd=d.rd
 nd:c.nd=d.nd
 ou:LeO c.ou d.ou
theorem puts_le{b1 b2:Bool}(hb:b1=true→b2=true):∀ (ps:List Bs) {k1 k2:Kw},LeK k1 k2→LeK (putsB k1 b1 ps) (putsB k2 b2 ps)
 | [],_,_,h=>h
 | s :: l,_,_,h=>puts_le hb l (h.put s rfl hb)
theorem cut_le{a b c d:Kw}(h:LeK a b)(h':LeK c d):LeK (cutB a c) (cutB b d):=fun t=>by
 unfold cutB;rcases h t with ⟨h1,h2⟩ | ⟨m1,m2,h1,h2,_,_⟩
 ·rw [h1,h2];exact .inl ⟨rfl,rfl⟩
 ·rw [h1,h2];simpa using h' t
theorem ro_le{a a':Int}{s:Bs}{f1 f2:Sf→Rf Sf}(hb:∀ c d,LeF c d→LeR LeF (f1 c) (f2 d)):∀ (n:Nat) (i:BitVec 32) (c d:Sf),LeF c d→LeR LeF (roB R a s f1 n i c) (roB R a' s f2 n i d)
 | 0,i,c,d,h=>LeR.ok h
 | n+1,i,c,d,h=>by
  unfold roB;rw [h.rd];by_cases hr:R < d.rd+1
  ·rw [if_pos hr,if_pos hr];exact LeR.bad
  ·rw [if_neg hr,if_neg hr];exact (hb { c with rd:=d.rd+1,kn:=c.kn.put s ⟨false,some i⟩ } { d with rd:=d.rd+1,kn:=d.kn.put s ⟨false,some i⟩ } ⟨h.kn.put s rfl (fun h=>h),rfl,h.nd,h.ou⟩).bnd fun c' d' h'=>ro_le hb n (i+1) _ _ ⟨cut_le h.kn h'.kn,h'.rd,h'.nd,h'.ou⟩
inductive OpT:Tz→Tz→Prop
 | same (z:Tz):OpT z z
 | input (a:Int) (s:Bs) (n:Nat) (ps:List Bs) (l:List Tz):OpT (.mk 7 a s n ps l) (.mk 6 a s n ps l)
mutual
theorem sfT_le:∀ (z:Tz) (c d:Sf),LeF c d→LeR LeF (sfT num M D R fu z c) (sfT num M D R fu z d)
 | .mk k a s n ps l,c,d,h=>by
  unfold sfT;by_cases h6:k = 6∨k = 7
  ·rw [if_pos h6,if_pos h6];exact LeR.ok ⟨puts_le (fun h=>h) ps h.kn,h.rd,h.nd,h.ou⟩
  rw [if_neg h6,if_neg h6];by_cases h10:k = 10
  ·rw [if_pos h10,if_pos h10,h.nd];exact (hd_le fun x nd=>exC_le D _ _ x nd h.kn).bnd fun q q' hq=>LeR.ok ⟨h.kn.put s rfl hq.2,h.rd,hq.1,h.ou⟩
  rw [if_neg h10,if_neg h10];by_cases h8:k = 8∨k = 9
  ·rw [if_pos h8,if_pos h8,h.nd];refine (hd_le fun x nd=>exC_le D _ _ x nd h.kn).bnd fun q q' hq=>?_
   by_cases h9:q'.1=true∧k = 9
   ·rw [if_pos h9];exact LeR.bad
   ·rw [if_neg h9,if_neg (fun hh=>h9 ⟨hq.2 hh.1,hh.2⟩)];exact LeR.ok ⟨h.kn,h.rd,hq.1,h.ou.app rfl hq.2⟩
  rw [if_neg h8,if_neg h8];by_cases h11:k = 11
  ·rw [if_pos h11,if_pos h11];have hi:LeR (fun x y=>x=y) (n0B num c.kn l) (n0B num d.kn l):=by
    cases l with
    | nil=>exact LeR.ok rfl
    | cons x l=>exact nu_le h.kn x
   have hj:LeR (fun x y=>x=y) (n1B num c.kn l) (n1B num d.kn l):=by
    cases l with
    | nil=>exact LeR.ok rfl
    | cons x l=>
     cases l with
     | nil=>exact LeR.ok rfl
     | cons y l=>exact nu_le h.kn y
   refine hi.bnd fun i i' hii=>hj.bnd fun j j' hjj=>?_
   subst hii;subst hjj;exact ro_le (fun c' d' h'=>sfTs_le 2 l c' d' h') _ _ c d h
  ·rw [if_neg h11,if_neg h11];exact LeR.ok h
theorem sfTs_le:∀ (i:Nat) (l:List Tz) (c d:Sf),LeF c d→LeR LeF (sfTs num M D R fu i l c) (sfTs num M D R fu i l d)
 | _,[],c,d,h=>by unfold sfTs;exact LeR.ok h
 | 0,x :: l,c,d,h=>by
  unfold sfTs;exact (sfT_le x c d h).bnd fun c' d' h'=>sfTs_le 0 l c' d' h'
 | i+1,x :: l,c,d,h=>by
  unfold sfTs;exact sfTs_le i l c d h
end
theorem sfT_op{z1 z2:Tz}(hz:OpT z1 z2)(c d:Sf)(h:LeF c d):LeR LeF (sfT num M D R fu z1 c) (sfT num M D R fu z2 d):=by
 cases hz with
 | same z=>exact sfT_le _ c d h
 | input a s n ps l=>
  unfold sfT;rw [if_pos (.inr rfl),if_pos (.inl rfl)];exact LeR.ok ⟨puts_le (fun h=>absurd h (by decide)) ps h.kn,h.rd,h.nd,h.ou⟩
inductive OpS:List Tz→List Tz→Prop
 | nil:OpS [] []
 | cons {x y:Tz} {l m:List Tz} (h:OpT x y) (hs:OpS l m):OpS (x :: l) (y :: m)
theorem sfTs_op:∀ {l m:List Tz},OpS l m→∀ (c d:Sf),LeF c d→LeR LeF (sfTs num M D R fu 0 l c) (sfTs num M D R fu 0 m d)
 | _,_,.nil,c,d,h=>by unfold sfTs;exact LeR.ok h
 | _,_,.cons hx hs,c,d,h=>by
  unfold sfTs;exact (sfT_op hx c d h).bnd fun c' d' h'=>sfTs_op hs c' d' h'
theorem ln_op{z1 z2:Tz}(hz:OpT z1 z2)(fu:Fu):lnT z1 fu=lnT z2 fu:=by
 cases hz with
 | same z=>rfl
 | input a s n ps l=>unfold lnT;rfl
theorem lns_op:∀ {l m:List Tz},OpS l m→∀ fu:Fu,lnTs 0 l fu=lnTs 0 m fu
 | _,_,.nil,fu=>rfl
 | _,_,.cons hx hs,fu=>by
  unfold lnTs;rw [ln_op hx];exact lns_op hs _
theorem fl_more{z1 z2:Tz}(h:OpS (lz z1) (lz z2)):LeR LeF (flB num M D R z1) (flB num M D R z2):=by
 unfold flB;rw [show fuz z1=fuz z2 from lns_op h _];exact sfTs_op h init init ⟨LeK.refl _,rfl,rfl,trivial⟩
end
end Go.Proofs.YtcgibpdjfgjldaaGreatDoor.Fl
namespace Go.Proofs.YtcgibpdjfgjldaaGreatDoor.Pa
open Lx
def NT.sk:NT→NT
 | .lev n=>.lev n
 | .more n x=>.more n (Pa.sk x)
 | .args l=>.args (skL l)
 | .fin k _ s ps=>.fin k 0 s ps
 | .inner=>.inner
 | .inners l=>.inners (skL l)
 | .stmt=>.stmt
 | .stmts l=>.stmts (skL l)
def Le(o o':OO):Prop:=∀ x,o=some x→o'=some x
theorem le_refl(o:OO):Le o o:=fun _ h=>h
theorem le_if{c:Prop}[Decidable c]{o o' p p':OO}(h1:Le o o')(h2:Le p p'):Le (if c then o else p) (if c then o' else p'):=by
 by_cases h:c
 ·rw [if_pos h,if_pos h];exact h1
 ·rw [if_neg h,if_neg h];exact h2
theorem le_bnd{o o':OO}{f f':List Tr→List Tk→OO}(h:Le o o')(hf:∀ xs r,Le (f xs r) (f' xs r)):Le (bnd o f) (bnd o' f'):=by
 rcases o with _ | ⟨l,r⟩ | ⟨a,e⟩
 ·intro x hx;cases hx
 ·rw [h _ rfl];exact hf l r
 ·rw [h _ rfl];exact le_refl _
theorem le_must{b:Bs}{l:List Tk}{f f':List Tk→OO}(hf:∀ r,Le (f r) (f' r)):Le (must b l f) (must b l f'):=by
 cases l with
 | nil=>exact le_refl _
 | cons t l=>unfold must;exact le_if (hf _) (le_refl _)
theorem le_name{l:List Tk}{f f':Bs→List Tk→OO}(hf:∀ s r,Le (f s r) (f' s r)):Le (nameK l f) (nameK l f'):=by
 cases l with
 | nil=>exact le_refl _
 | cons t l=>unfold nameK;exact le_if (hf _ _) (le_refl _)
theorem le_names{f f':List Bs→List Tk→OO}(hf:∀ ps r,Le (f ps r) (f' ps r)):∀ (ps:List Bs) (l:List Tk),Le (namesK ps l f) (namesK ps l f')
 | _,[]=>le_refl _
 | ps,[t]=>by unfold namesK;exact le_if (hf _ _) (le_refl _)
 | ps,t :: u :: r=>by unfold namesK;exact le_if (le_if (le_names hf _ r) (hf _ _)) (le_refl _)
theorem pF_mono(num:Bs→Nat×Nat):∀ (f g:Nat),f≤g→∀ (nt:NT) (d:Nat) (l:List Tk),Le (pF num f nt d l) (pF num g nt d l):=by
 intro f
 induction f with
 | zero=>intro g _ nt d l x hx;cases hx
 | succ f ih0=>
  intro g hg nt d l;obtain ⟨g,rfl⟩:∃ x,g=x+1:=⟨g - 1,by omega⟩;have ih:=ih0 g (by omega);clear ih0;cases nt with
  | lev n=>
   unfold pF;refine le_if (le_bnd (ih _ _ _) fun xs r=>ih _ _ _) ?_;cases l with
   | nil=>exact le_refl _
   | cons t r=>
    simp only;refine le_if (le_refl _) (le_if (le_bnd (ih _ _ _) fun xs r=>le_refl _) (le_if (le_refl _) (le_if (le_bnd (ih _ _ _) fun xs r=>le_refl _) (le_name fun s r=>?_))));cases r with
    | nil=>exact le_refl _
    | cons u r=>exact le_if (le_bnd (ih _ _ _) fun xs r=>le_bnd (ih _ _ _) fun ys r=>le_refl _) (le_refl _)
  | more n x=>
   unfold pF;cases l with
   | nil=>exact le_refl _
   | cons t r=>exact le_if (le_bnd (ih _ _ _) fun ys r=>ih _ _ _) (le_refl _)
  | args xs=>
   unfold pF;cases l with
   | nil=>exact le_refl _
   | cons t r=>exact le_if (le_bnd (ih _ _ _) fun ys r=>ih _ _ _) (le_refl _)
  | fin k a s ps=>
   unfold pF;exact le_bnd (ih _ _ _) fun xs r=>le_refl _
  | inner=>
   unfold pF;cases l with
   | nil=>exact le_refl _
   | cons t r=>
    exact le_if (le_refl _) (le_if (le_name fun s r=>le_must fun r=>le_bnd (ih _ _ _) fun xs r=>le_must fun r=>le_bnd (ih _ _ _) fun ys r=>le_must fun r=>le_bnd (ih _ _ _) fun zs r=>le_refl _) (le_name fun s r=>le_must fun r=>ih _ _ _))
  | inners zs=>
   unfold pF;cases l with
   | nil=>exact le_refl _
   | cons t r=>exact le_if (le_refl _) (le_bnd (ih _ _ _) fun xs r=>ih _ _ _)
  | stmt=>
   unfold pF;cases l with
   | nil=>exact le_refl _
   | cons t r=>
    exact le_if (le_refl _) (le_if (le_refl _) (le_if (le_name fun s r=>le_must fun r=>ih _ _ _) (le_if (le_name fun s r=>le_must fun r=>ih _ _ _)
     (le_if (le_name fun s r=>le_must fun r=>le_names (fun ps r=>le_must fun r=>le_must fun r=>ih _ _ _) _ _) (ih _ _ _)))))
  | stmts xs=>
   unfold pF;cases l with
   | nil=>exact le_refl _
   | cons t r=>exact le_if (le_refl _) (le_bnd (ih _ _ _) fun ys r=>ih _ _ _)
theorem pF_one{num:Bs→Nat×Nat}{f g:Nat}{nt:NT}{d:Nat}{l:List Tk}{o o':Out}(h:pF num f nt d l=some o)(h':pF num g nt d l=some o'):o=o':=by
 have h1:=pF_mono num f (max f g) (Nat.le_max_left _ _) nt d l o h;have h2:=pF_mono num g (max f g) (Nat.le_max_right _ _) nt d l o' h';rw [h1] at h2;exact Option.some.inj h2
def Et(l:List Tk):Prop:=∃ u e,l=u ++ [e]∧e.k = 0∧∀ t∈u,t.k≠0
theorem et_nil:¬ Et []:=fun ⟨u,e,h,_⟩=>by cases u <;> cases h
theorem et_tail{t:Tk}{r:List Tk}(h:Et (t :: r))(ht:t.k≠0):Et r:=by
 obtain ⟨u,e,h1,h2,h3⟩:=h;cases u with
 | nil=>simp only [List.nil_append,List.cons.injEq] at h1;rw [h1.1] at ht;exact absurd h2 ht
 | cons x u=>simp only [List.cons_append,List.cons.injEq] at h1;exact ⟨u,e,h1.2,h2,fun t ht=>h3 t (List.mem_cons_of_mem _ ht)⟩
def Gd(l:List Tk):OO→Prop
 | none=>True
 | some (.ok _ r)=>Et r∧r <:+ l
 | some (.bad a e)=>(∃ t∈l,a=t.at_)∧(e = 100∨e = 150)
theorem gd_up{l l':List Tk}{o:OO}(h:Gd l o)(hl:l <:+ l'):Gd l' o:=by
 rcases o with _ | ⟨xs,r⟩ | ⟨a,e⟩
 ·trivial
 ·exact ⟨h.1,h.2.trans hl⟩
 ·obtain ⟨⟨t,ht,ha⟩,he⟩:=h;exact ⟨⟨t,hl.subset ht,ha⟩,he⟩
theorem gd_wrong{l:List Tk}(h:Et l){e:Nat}(he:e = 100∨e = 150):Gd l (wrong l e):=by
 cases l with
 | nil=>exact absurd h et_nil
 | cons t r=>exact ⟨⟨t,List.mem_cons_self ..,rfl⟩,he⟩
theorem gd_ok{l r:List Tk}(xs:List Tr)(h:Et r)(hl:r <:+ l):Gd l (some (.ok xs r)):=⟨h,hl⟩
theorem gd_if{l:List Tk}{c:Prop}[Decidable c]{o p:OO}(h1:c→Gd l o)(h2:¬ c→Gd l p):Gd l (if c then o else p):=by
 by_cases h:c
 ·rw [if_pos h];exact h1 h
 ·rw [if_neg h];exact h2 h
theorem gd_bnd{l:List Tk}{o:OO}{f:List Tr→List Tk→OO}(h:Gd l o)(hf:∀ xs r,Et r→r <:+ l→Gd r (f xs r)):Gd l (bnd o f):=by
 rcases o with _ | ⟨xs,r⟩ | ⟨a,e⟩
 ·trivial
 ·exact gd_up (hf xs r h.1 h.2) h.2
 ·exact h
theorem gd_must{b:Bs}{l:List Tk}{f:List Tk→OO}(h:Et l)(hf:∀ r,Et r→Gd r (f r)):Gd l (must b l f):=by
 cases l with
 | nil=>exact absurd h et_nil
 | cons t r=>
  refine gd_if (fun hb=>gd_up (hf r (et_tail h ?_)) (List.suffix_cons t r)) fun _=>gd_wrong h (.inl rfl)
  unfold isS at hb;simp only [Bool.and_eq_true,decide_eq_true_eq] at hb;omega
theorem gd_name{l:List Tk}{f:Bs→List Tk→OO}(h:Et l)(hf:∀ s r,Et r→Gd r (f s r)):Gd l (nameK l f):=by
 cases l with
 | nil=>exact absurd h et_nil
 | cons t r=>exact gd_if (fun hb=>gd_up (hf t.s r (et_tail h (by omega))) (List.suffix_cons t r)) fun _=>gd_wrong h (.inl rfl)
theorem is_k{b:Bs}{t:Tk}(h:isS b t=true):t.k≠0:=by
 unfold isS at h;simp only [Bool.and_eq_true,decide_eq_true_eq] at h;omega
theorem gd_names{f:List Bs→List Tk→OO}(hf:∀ ps r,Et r→Gd r (f ps r)):∀ (ps:List Bs) (l:List Tk),Et l→Gd l (namesK ps l f)
 | _,[],h=>absurd h et_nil
 | ps,[t],h=>by
  unfold namesK;exact gd_if (fun hb=>absurd (et_tail h (by omega)) et_nil) fun _=>gd_wrong h (.inl rfl)
 | ps,t :: u :: r,h=>by
  unfold namesK;refine gd_if (fun hb=>?_) fun _=>gd_wrong h (.inl rfl)
  have h2:=et_tail h (by omega);exact gd_if (fun hu=>gd_up (gd_names hf _ r (et_tail h2 (is_k hu))) ((List.suffix_cons u r).trans (List.suffix_cons t _))) fun _=>gd_up (hf _ _ h2) (List.suffix_cons t _)
theorem on_k{n:Nat}{t:Tk}(h:onS n t=true):t.k≠0:=by
 unfold onS at h;simp only [Bool.and_eq_true,beq_iff_eq] at h;omega
theorem pF_good(num:Bs→Nat×Nat):∀ (f:Nat) (nt:NT) (d:Nat) (l:List Tk),Et l→Gd l (pF num f nt d l):=by
 intro f
 induction f with
 | zero=>intros;trivial
 | succ f ih=>
  intro nt d l h;have one:∀ {t:Tk} {r:List Tk} {o:OO},Gd r o→Gd (t :: r) o:=fun {t r o} hg=>gd_up hg (List.suffix_cons t r)
  cases l with
  | nil=>exact absurd h et_nil
  | cons t r=>
  cases nt with
  | lev n=>
   unfold pF;refine gd_if (fun _=>gd_bnd (ih _ _ _ h) fun xs r hr _=>ih _ _ _ hr) fun _=>?_
   refine gd_if (fun _=>gd_wrong h (.inr rfl)) fun _=>gd_if (fun hs=>?_) fun _=>gd_if (fun hk=>?_) fun _=>gd_if (fun hs=>?_) fun _=>gd_name h fun s r hr=>?_
   ·have hr:Et r:=et_tail h (by
     rcases Bool.or_eq_true_iff.1 hs with hs | hs <;> exact is_k hs)
    exact one (gd_bnd (ih _ _ _ hr) fun xs r' hr' _=>gd_ok _ hr' (List.suffix_refl _))
   ·refine gd_if (fun _=>gd_ok _ (et_tail h (by omega)) (List.suffix_cons t r)) fun _=>gd_wrong h ?_
    by_cases h4:(num t.s).2 = 4
    ·rw [if_pos h4];exact .inl rfl
    ·rw [if_neg h4];exact .inr rfl
   ·exact one (gd_bnd (ih _ _ _ (et_tail h (is_k hs))) fun xs r' hr' _=>gd_must hr' fun r2 hr2=>gd_ok _ hr2 (List.suffix_refl _))
   ·cases r with
    | nil=>exact absurd hr et_nil
    | cons u r'=>
     refine gd_if (fun hu=>?_) fun _=>gd_ok _ hr (List.suffix_refl _)
     exact one (gd_bnd (ih _ _ _ (et_tail hr (is_k hu))) fun xs r2 hr2 _=>gd_bnd (ih _ _ _ hr2) fun ys r3 hr3 _=>gd_must hr3 fun r4 hr4=>gd_ok _ hr4 (List.suffix_refl _))
  | more n x=>
   unfold pF;exact gd_if (fun hs=>one (gd_bnd (ih _ _ _ (et_tail h (on_k hs))) fun ys r' hr' _=>ih _ _ _ hr')) fun _=>gd_ok _ h (List.suffix_refl _)
  | args xs=>
   unfold pF;exact gd_if (fun hs=>one (gd_bnd (ih _ _ _ (et_tail h (is_k hs))) fun ys r' hr' _=>ih _ _ _ hr')) fun _=>gd_ok _ h (List.suffix_refl _)
  | fin k a s ps=>
   unfold pF;exact gd_bnd (ih _ _ _ h) fun xs r hr _=>gd_must hr fun r' hr'=>gd_ok _ hr' (List.suffix_refl _)
  | inner=>
   unfold pF;exact gd_if (fun _=>gd_wrong h (.inr rfl)) fun _=>gd_if (fun hs=>one (gd_name (et_tail h (is_k hs)) fun s r hr=>gd_must hr fun r hr=>gd_bnd (ih _ _ _ hr) fun xs r hr _=>gd_must hr fun r hr=>gd_bnd (ih _ _ _ hr) fun ys r hr _=>gd_must hr fun r hr=>gd_bnd (ih _ _ _ hr) fun zs r hr _=>gd_ok _ hr (List.suffix_refl _)))
    fun _=>gd_name h fun s r hr=>gd_must hr fun r hr=>ih _ _ _ hr
  | inners zs=>
   unfold pF;exact gd_if (fun hs=>gd_ok _ (et_tail h (is_k hs)) (List.suffix_cons t r)) fun _=>gd_bnd (ih _ _ _ h) fun xs r hr _=>ih _ _ _ hr
  | stmt=>
   unfold pF;refine gd_if (fun hs=>one (gd_names (fun ps r hr=>?_) _ _ (et_tail h (is_k hs)))) fun _=>gd_if (fun hs=>one (gd_names (fun ps r hr=>?_) _ _ (et_tail h (is_k hs)))) fun _=>gd_if (fun hs=>one (gd_name (et_tail h (is_k hs)) fun s r hr=>?_)) fun _=>
    gd_if (fun hs=>one (gd_name (et_tail h (is_k hs)) fun s r hr=>?_)) fun _=>gd_if (fun hs=>one (gd_name (et_tail h (is_k hs)) fun s r hr=>?_)) fun _=>ih _ _ _ h
   ·exact gd_must hr fun r hr=>gd_ok _ hr (List.suffix_refl _)
   ·exact gd_must hr fun r hr=>gd_ok _ hr (List.suffix_refl _)
   ·exact gd_must hr fun r hr=>ih _ _ _ hr
   ·exact gd_must hr fun r hr=>ih _ _ _ hr
   ·refine gd_must hr fun r hr=>gd_names (fun ps r hr=>?_) _ _ hr
    exact gd_must hr fun r hr=>gd_must hr fun r hr=>ih _ _ _ hr
  | stmts xs=>
   unfold pF;exact gd_if (fun _=>gd_ok _ h (List.suffix_refl _)) fun _=>gd_bnd (ih _ _ _ h) fun ys r hr _=>ih _ _ _ hr
end Go.Proofs.YtcgibpdjfgjldaaGreatDoor.Pa
