/- DERIVED. FlAr, LxC, LxK, LxJ, PaSk, PaMo, PaAp, PaTop, PaTok, PaSt, PaSm, ShPt. By an AI agent. -/
import Derived.Test.YtcgibpdjfgjldaaGreatDoorU04
import Derived.WalkKit
import Derived.BigQuiet
import Derived.Laws.Rows
import Derived.WalkLawsBesides
set_option maxRecDepth 100000
set_option maxHeartbeats 4000000
set_option linter.unusedVariables false
set_option linter.unusedSimpArgs false
namespace Go.Proofs.YtcgibpdjfgjldaaGreatDoor
namespace Fl
open Lx Pa Sh Go.Proofs.YtcgibpdjfgjldaaGreatDoor.Nm
def arB(fu:Fu)(s:Bs)(m:Nat):Bool:=match fu s with | some f=>decide (m<=f.1.length) | none=>false
mutual
def okC(fu:Fu):Tz->Prop
 | .mk k _ s _ _ l=>(k = 5->s≠sel->arB fu s l.length=true)/\okCs fu l
def okCs(fu:Fu):List Tz->Prop
 | []=>True
 | x :: l=>okC fu x/\okCs fu l
end
theorem q3R{fu:Fu}:∀ (i:Nat) {l:List Tz},okCs fu l->okCs fu (l.take i)
 | 0,l,h=>by simp [okCs]
 | i+1,[],h=>by simp [okCs]
 | i+1,x :: l,h=>by
  unfold okCs at h;rw [List.take_succ_cons];unfold okCs;exact ⟨h.1,q3R i h.2⟩
theorem q4A{fu:Fu}:∀ {l:List Tz},okCs fu l->∀ {i:Nat} {x:Tz},l[i]?=some x->okC fu x
 | [],_,i,x,h=>Vc
 | y :: l,h,0,x,hx=>by
  have:y=x:=Vf;subst this;unfold okCs at h;exact h.1
 | y :: l,h,i+1,x,hx=>by
  unfold okCs at h;exact q4A h.2 Vf
theorem q3S{fu:Fu}{k a:Int}{s:Bs}{n:Nat}{ps:List Bs}{l:List Tz}(h:okC fu (.mk k a s n ps l)):(k = 5->s≠sel->arB fu s l.length=true)/\okCs fu l:=by unfold okC at h;exact h
mutual
def okS(fu:Fu):Tz->Prop
 | .mk k _ _ _ _ l=>(k = 12\/k = 10\/k = 8\/k = 9->okCs fu (l.take 1))/\(k = 11->okSs fu 2 l)
def okSs(fu:Fu):Nat->List Tz->Prop
 | _,[]=>True
 | 0,x :: l=>okS fu x/\okSs fu 0 l
 | i+1,_ :: l=>okSs fu i l
end
theorem q3T{fu:Fu}:∀ (i:Nat) {l:List Tz},okSs fu i l->okSs fu 0 (l.drop i)
 | 0,l,h=>h
 | i+1,[],h=>by simp [okSs]
 | i+1,x :: l,h=>by unfold okSs at h;rw [List.drop_succ_cons];exact q3T i h
theorem q62{fu:Fu}:∀ {l:List Tz},okSs fu 0 l->∀ {i:Nat} {x:Tz},l[i]?=some x->okS fu x
 | [],_,i,x,h=>Vc
 | y :: l,h,0,x,hx=>by
  have:y=x:=Vf;subst this;unfold okSs at h;exact h.1
 | y :: l,h,i+1,x,hx=>by
  unfold okSs at h;exact q62 h.2 Vf
theorem q3U{fu:Fu}{k a:Int}{s:Bs}{n:Nat}{ps:List Bs}{l:List Tz}(h:okS fu (.mk k a s n ps l)):(k = 12\/k = 10\/k = 8\/k = 9->okCs fu (l.take 1))/\(k = 11->okSs fu 2 l):=by unfold okS at h;exact h
def Jf(kn:Kn)(fu:Fu):Prop:=∀ s p,s≠sel->kn s=some (1,p)->∃ f,fu s=some f/\f.1.length=p
def Kf(kn:Kn)(fu fu':Fu):Prop:=∀ s p,kn s=some (1,p)->fu' s=fu s
theorem Jf.put{kn:Kn}{fu:Fu}(h:Jf kn fu){s:Bs}{m:Nat×Nat}(hm:m.1≠1):Jf (kn.put s m) fu:=fun t p ht hk=>by
 unfold Kn.put at hk;by_cases e:t=s
 ·rw [if_pos e] at hk;cases hk;exact absurd rfl hm
 ·rw [if_neg e] at hk;exact h t p ht hk
theorem Jf.in_{a:Int}{fu:Fu}:∀ {ps:List Bs} {c d:St},inB a ps c = .ok d->Jf c.kn fu->Jf d.kn fu
 | [],c,d,h,hj=>by unfold inB at h;cases h;exact hj
 | s :: l,c,d,h,hj=>by
  unfold inB at h;by_cases hb:namedB c.kn s=true
  ·exact VY
  ·rw [if_neg hb] at h;exact Jf.in_ h (show Jf (c.kn.put s (0,0)) fu from hj.put V2)
theorem Jf.dels{kn:Kn}{fu:Fu}(h:Jf kn fu)(l:List Bs):Jf (kn.dels l) fu:=fun t p ht hk=>by
 unfold Kn.dels at hk;by_cases e:t∈l
 ·rw [if_pos e] at hk;cases hk
 ·rw [if_neg e] at hk;exact h t p ht hk
theorem Kf.refl(kn:Kn)(fu:Fu):Kf kn fu fu:=fun _ _ _=>rfl
theorem Kf.trans{c d:St}{f1 f2 f3:Fu}(h:Kf c.kn f1 f2)(he:Ext c d)(h':Kf d.kn f2 f3):Kf c.kn f1 f3:=fun s p hs=>(h' s p (he.kn s _ hs)).trans (h s p hs)
mutual
theorem ln_ok:∀ {z:Tz} {c d:St} {fu:Fu},stB z c = .ok d->Sorts c.kn->Jf c.kn fu->Jf d.kn (lnT z fu)/\Kf c.kn fu (lnT z fu)
 | .mk k a s n ps l,c,d,fu,h,hs,hj=>by
  unfold stB at h;unfold lnT;by_cases h6:k = 6
  ·rw [if_pos h6] at h;exact V3r
  rw [if_neg h6] at h;by_cases h7:k = 7
  ·rw [if_pos h7] at h;exact V3r
  rw [if_neg h7] at h;by_cases h12:k = 12
  ·rw [if_pos h12] at h;rw [if_pos h12];by_cases hb:namedB c.kn s=true
   ·exact VY
   rw [if_neg hb] at h;by_cases hp:paB c.kn s [] ps=false
   ·rw [if_pos hp] at h;cases h
   rw [if_neg hp] at h;obtain ⟨_,h2⟩:=q1n h;cases h2;have hn:=q16 hb;refine ⟨fun t p ht hk=>?_,fun t p hk=>?_⟩
   ·have hk':(if t=s then some (1,ps.length) else c.kn t)=some (1,p):=hk;dsimp only;by_cases e:t=s
    ·rw [if_pos e] at hk' ⊢;cases hk';exact ⟨_,rfl,rfl⟩
    ·rw [if_neg e] at hk' ⊢;exact hj t p ht hk'
   ·dsimp only;rw [if_neg (fun e=>by subst e;rw [hn] at hk;cases hk)]
  rw [if_neg h12] at h;rw [if_neg h12];by_cases h10:k = 10
  ·rw [if_pos h10] at h;rw [if_neg V0];obtain ⟨_,h2⟩:=q1n h;by_cases hb:isB c.kn s [0,1,3]=true
   ·exact VK
   rw [if_neg hb] at h2;by_cases hv:isB c.kn s [2]=true
   ·rw [if_pos hv] at h2;cases h2;exact ⟨hj,Kf.refl _ _⟩
   rw [if_neg hv] at h2;cases h2;exact ⟨show Jf (c.kn.put s (2,0)) fu from hj.put V2,Kf.refl _ _⟩
  rw [if_neg h10] at h;by_cases h8:k = 8\/k = 9
  ·rw [if_pos h8] at h;rw [if_neg V0];obtain ⟨_,h2⟩:=q1n h;by_cases hb:(c.ou.map (·.1)).contains s=true
   ·exact VK
   rw [if_neg hb] at h2;cases h2;exact ⟨hj,Kf.refl _ _⟩
  rw [if_neg h8] at h;by_cases h11:k = 11
  ·rw [if_pos h11] at h;rw [if_pos h11];obtain ⟨_,h2⟩:=q1n h;by_cases hb:namedB c.kn s=true
   ·exact VK
   rw [if_neg hb] at h2;obtain ⟨c1,h3,h4⟩:=q2n h2;cases h4;obtain ⟨g1,g2⟩:=q5a h3 (show Sorts (c.kn.put s (3,0)) from hs.put V2) (show Jf (c.kn.put s (3,0)) fu from hj.put V2);refine ⟨show Jf (c1.kn.dels _) _ from g1.dels _,fun t p hk=>g2 t p ?_⟩;show (if t=s then some (3,0) else c.kn t)=_;rw [if_neg (fun e=>by subst e;rw [q16 hb] at hk;cases hk)];exact hk
  rw [if_neg h11] at h;rw [if_neg h11];cases h;exact ⟨hj,Kf.refl _ _⟩
theorem q5a:∀ {i:Nat} {l:List Tz} {c d:St} {fu:Fu},stBs i l c = .ok d->Sorts c.kn->Jf c.kn fu->Jf d.kn (lnTs i l fu)/\Kf c.kn fu (lnTs i l fu)
 | i,[],c,d,fu,h,hs,hj=>by
  rw [q3k] at h;cases h;cases i <;> (unfold lnTs;exact ⟨hj,Kf.refl _ _⟩)
 | 0,x :: l,c,d,fu,h,hs,hj=>by
  rw [q1U] at h;obtain ⟨c1,h1,h2⟩:=q2n h;obtain ⟨g1,g2⟩:=ln_ok h1 hs hj;obtain ⟨x1,x2⟩:=q3m h1 hs;obtain ⟨g3,g4⟩:=q5a h2 x2 g1;unfold lnTs;exact ⟨g3,g2.trans x1 g4⟩
 | i+1,x :: l,c,d,fu,h,hs,hj=>by
  unfold stBs at h;unfold lnTs;exact q5a h hs hj
end
def Arf(kn:Kn)(fu:Fu):Prop:=∀ s p,s≠sel->kn s=some (1,p)->arB fu s p=true
theorem call_ar{kn:Kn}{fu:Fu}(h:Arf kn fu){s:Bs}{p:Nat}(hs:s≠sel)(hc:¬ callB kn s p=false):arB fu s p=true:=by
 unfold callB at hc;cases hk:kn s with
 | none=>rw [hk] at hc;exact absurd rfl hc
 | some m=>
  rw [hk] at hc;obtain ⟨m1,m2⟩:=m;simp at hc;obtain ⟨rfl,rfl⟩:=hc;exact h s _ hs hk
mutual
theorem ex_ok{isN:Bs->Bool}{kn:Kn}{fu:Fu}(h:Arf kn fu):∀ (z:Tz),exB isN (callB kn) z=none->okC fu z
 | .mk k a s n ps l,he=>by
  unfold exB at he;unfold okC;by_cases hc:(k = 1/\isN s=false)\/(k = 5/\callB kn s l.length=false)
  ·rw [if_pos hc] at he;cases he
  ·rw [if_neg hc] at he;exact ⟨fun hk hs=>call_ar h hs fun hh=>hc (.inr ⟨hk,hh⟩),q3V h l he⟩
theorem q3V{isN:Bs->Bool}{kn:Kn}{fu:Fu}(h:Arf kn fu):∀ (l:List Tz),exBs isN (callB kn) l=none->okCs fu l
 | [],he=>by unfold okCs;trivial
 | x :: l,he=>by
  unfold exBs at he;unfold okCs;cases hx:exB isN (callB kn) x with
  | some a=>rw [hx] at he;cases he
  | none=>rw [hx] at he;exact ⟨ex_ok h x hx,q3V h l he⟩
end
theorem Arf.ext{c d:St}{fu:Fu}(h:Arf d.kn fu)(he:Ext c d):Arf c.kn fu:=fun s p hs hk=>h s p hs (he.kn s _ hk)
theorem dels_fn{c d:St}(h:Ext c d){n:Nat}(hn:n=c.en.length){s:Bs}{p:Nat}(hk:d.kn s=some (1,p)):d.kn.dels (d.en.drop n) s=some (1,p):=by
 subst hn;obtain ⟨e,h1,h2,_⟩:=h.en;have hd:d.en.drop c.en.length=e:=by rw [h1];simp
 rw [hd];unfold Kn.dels;rw [if_neg (fun hm=>by
  obtain ⟨_,m,h3,h4⟩:=h2 s hm;rw [hk] at h3;cases h3;exact h4 rfl)]
 exact hk
mutual
theorem st_ok{fu:Fu}:∀ {z:Tz} {c d:St},stB z c = .ok d->Sorts c.kn->Arf d.kn fu->okS fu z
 | .mk k a s n ps l,c,d,h,hs,hj=>by
  have hx:=(q3m h hs).1;unfold stB at h;unfold okS;by_cases h6:k = 6
  ·exact ⟨fun h=>V0,fun h=>V0⟩
  rw [if_neg h6] at h;by_cases h7:k = 7
  ·exact ⟨fun h=>V0,fun h=>V0⟩
  rw [if_neg h7] at h;by_cases h12:k = 12
  ·rw [if_pos h12] at h;by_cases hb:namedB c.kn s=true
   ·exact VY
   rw [if_neg hb] at h;by_cases hp:paB c.kn s [] ps=false
   ·rw [if_pos hp] at h;cases h
   rw [if_neg hp] at h;exact ⟨fun _=>q3V (hj.ext hx) _ (q1n h).1,fun h=>V0⟩
  rw [if_neg h12] at h;by_cases h10:k = 10
  ·rw [if_pos h10] at h;exact ⟨fun _=>q3V (hj.ext hx) _ (q1n h).1,fun h=>V0⟩
  rw [if_neg h10] at h;by_cases h8:k = 8\/k = 9
  ·rw [if_pos h8] at h;exact ⟨fun _=>q3V (hj.ext hx) _ (q1n h).1,fun h=>V0⟩
  rw [if_neg h8] at h;by_cases h11:k = 11
  ·rw [if_pos h11] at h;obtain ⟨_,h2⟩:=q1n h;by_cases hb:namedB c.kn s=true
   ·exact VK
   rw [if_neg hb] at h2;obtain ⟨c1,h3,h4⟩:=q2n h2;have h5:=(q1D h3 (show Sorts (c.kn.put s (3,0)) from hs.put V2)).1;have h0:=(Ext.new (d:={ c with kn:=c.kn.put s (3,0),en:=c.en ++ [s] }) (q16 hb) V2 rfl rfl).trans h5;refine ⟨fun h=>V0,fun _=>q5b h3 (show Sorts (c.kn.put s (3,0)) from hs.put V2) fun t p ht hk=>?_⟩;cases h4;exact hj t p ht (dels_fn h0 rfl hk)
  exact ⟨fun h=>V0,fun h=>V0⟩
theorem q5b{fu:Fu}:∀ {i:Nat} {l:List Tz} {c d:St},stBs i l c = .ok d->Sorts c.kn->Arf d.kn fu->okSs fu i l
 | i,[],c,d,h,hs,hj=>by cases i <;> (unfold okSs;trivial)
 | 0,x :: l,c,d,h,hs,hj=>by
  rw [q1U] at h;obtain ⟨c1,h1,h2⟩:=q2n h;obtain ⟨x1,x2⟩:=q3m h1 hs;have x3:=(q1D h2 x2).1;unfold okSs;exact ⟨st_ok h1 hs (hj.ext x3),q5b h2 x2 hj⟩
 | i+1,x :: l,c,d,h,hs,hj=>by
  unfold stBs at h;unfold okSs;exact q5b h hs hj
end
def okF(fu ff:Fu):Prop:=∀ s f,ff s=some f->okCs fu (f.2.take 1)
mutual
theorem lnF{fu:Fu}:∀ (z:Tz) {ff:Fu},okS fu z->okF fu ff->okF fu (lnT z ff)
 | .mk k a s n ps l,ff,h,hf=>by
  obtain ⟨h1,h2⟩:=q3U h;unfold lnT;by_cases h12:k = 12
  ·rw [if_pos h12];intro t f ht;dsimp only at ht;by_cases e:t=s
   ·rw [if_pos e] at ht;cases ht;exact h1 (.inl h12)
   ·rw [if_neg e] at ht;exact hf t f ht
  rw [if_neg h12];by_cases h11:k = 11
  ·rw [if_pos h11];exact lnFs 2 l (h2 h11) hf
  ·rw [if_neg h11];exact hf
theorem lnFs{fu:Fu}:∀ (i:Nat) (l:List Tz) {ff:Fu},okSs fu i l->okF fu ff->okF fu (lnTs i l ff)
 | i,[],ff,h,hf=>by cases i <;> (unfold lnTs;exact hf)
 | 0,x :: l,ff,h,hf=>by
  unfold okSs at h;unfold lnTs;exact lnFs 0 l h.2 (lnF x h.1 hf)
 | i+1,x :: l,ff,h,hf=>by
  unfold okSs at h;unfold lnTs;exact lnFs i l h hf
end
theorem ck_ar{z:Tz}{d:St}(h:ckB z = .ok d):okSs (fuz z) 0 (lz z)/\okF (fuz z) (fuz z):=by
 have hs:Sorts Nm.init.kn:=fun s m hm=>by
  have hm':(if s=sel then some (1,3) else none)=some m:=hm;by_cases e:s=sel
  ·rw [if_pos e] at hm';cases hm';decide
  ·rw [if_neg e] at hm';cases hm'
 have hj:Jf Nm.init.kn (fun _=>none):=fun s p ht hk=>by
  have hm':(if s=sel then some (1,3) else none)=some (1,p):=hk;rw [if_neg ht] at hm';cases hm'
 obtain ⟨g1,_⟩:=q5a (i:=0) (l:=lz z) (fu:=fun _=>none) h hs hj;have ha:Arf d.kn (fuz z):=fun s p ht hk=>by
  obtain ⟨f,h1,h2⟩:=g1 s p ht hk;unfold arB fuz;rw [h1];simp [h2]
 have h1:=q5b (i:=0) (l:=lz z) h hs ha;exact ⟨h1,lnFs 0 (lz z) h1 fun s f hf=>by cases hf⟩
def Dm(k1 k2:Kw):Prop:=∀ s,(k1 s).isSome=true->(k2 s).isSome=true
end Fl
namespace Lx
open Go Go.ChangeShapes Go.WideShapes Go.ChangeAt Go.RowKit Args
theorem letter(c:UInt8)(w:World):Calls Tryz.prog 49 #[.int .u8 ((c.toNat:Nat):Int)] w fun e w'=>e = .returned (.bool (letB c))/\w=w':=by
 have hb:letB c=((decide (65<=c.toNat) && decide (c.toNat<=90)) || (decide (97<=c.toNat) && decide (c.toNat<=122))):=rfl;generalize letB c=b at *;generalize c.toNat=k at *;by_cases h1:65<=k
 ·by_cases h2:k<=90
  ·have HB:=Hi (show b=true from V12);have i1:decide ((65:Int)<=(k:Int))=true:=V4;have i2:decide ((k:Int)<=90)=true:=V4;clear hb h1 h2;exact V0l
  ·by_cases h3:97<=k
   ·by_cases h4:k<=122
    ·have HB:=Hi (show b=true by rw [hb];simp [h3,h4]);have i1:decide ((65:Int)<=(k:Int))=true:=V4;have i2:decide ((k:Int)<=90)=false:=V4;have i3:decide ((97:Int)<=(k:Int))=true:=V4;have i4:decide ((k:Int)<=122)=true:=V4;clear hb h1 h2 h3 h4;exact V0l
    ·have HB:=Hi (show b=false from Vr);have i1:decide ((65:Int)<=(k:Int))=true:=V4;have i2:decide ((k:Int)<=90)=false:=V4;have i3:decide ((97:Int)<=(k:Int))=true:=V4;have i4:decide ((k:Int)<=122)=false:=V4;clear hb h1 h2 h3 h4;exact V0l
   ·have HB:=Hi (show b=false from Vr);have i1:decide ((65:Int)<=(k:Int))=true:=V4;have i2:decide ((k:Int)<=90)=false:=V4;have i3:decide ((97:Int)<=(k:Int))=false:=V4;clear hb h1 h2 h3;exact V0l
 ·have HB:=Hi (show b=false from Vr);have i1:decide ((65:Int)<=(k:Int))=false:=V4;have i3:decide ((97:Int)<=(k:Int))=false:=V4;clear hb h1;exact V0l
theorem num(c:UInt8)(w:World):Calls Tryz.prog 50 #[.int .u8 ((c.toNat:Nat):Int)] w fun e w'=>e = .returned (.bool (numB c))/\w=w':=by
 have hb:numB c=(decide (48<=c.toNat) && decide (c.toNat<=57)):=rfl;generalize numB c=b at *;generalize c.toNat=k at *;by_cases h1:48<=k
 ·by_cases h2:k<=57
  ·have HB:=Hi (show b=true from V12);have i1:decide ((48:Int)<=(k:Int))=true:=V4;have i2:decide ((k:Int)<=57)=true:=V4;clear hb h1 h2;exact V21
  ·have HB:=Hi (show b=false from Vr);have i1:decide ((48:Int)<=(k:Int))=true:=V4;have i2:decide ((k:Int)<=57)=false:=V4;clear hb h1 h2;exact V21
 ·have HB:=Hi (show b=false from Vr);have i1:decide ((48:Int)<=(k:Int))=false:=V4;clear hb h1;exact V21
abbrev strs(l:List Bs):List Value:=l.map fun t=>.string ⟨t.toArray⟩
theorem inL(l:List Bs)(s:Bs):∀ k,(∀ j,j < k->l[j]?≠some s)->(l.drop k).contains s=l.contains s:=fun k h=>by
 induction k generalizing l with
 | zero=>rfl
 | succ k ih=>
  cases l with
  | nil=>rfl
  | cons x l=>
   rw [List.drop_succ_cons,ih l fun j hj=>by have:=h (j+1) V0;simpa using this];have hx:x≠s:=fun e=>h 0 V0 (by simp [e])
   simp only [List.contains_eq_mem,List.mem_cons,Ne.symm hx,false_or]
theorem in_(A:Option Addr)(c:Nat)(l:List Bs)(s:ByteArray)(w:World)(hA:Lies w A (strs l))(hl:l.length<=1000) :
  Calls Tryz.prog 52 #[.slice A l.length c,.string s] w fun e w'=>e = .returned (.bool (l.contains s.data.toList))/\w=w':=by
 have hin:=inL l s.data.toList;have HA:=Hi hA;have HIN:=Hi hin;clear hA hin;generalize hb:l.contains s.data.toList=b at *;have HB:=Hi hb;clear hb;go_enter Tryz.func52,Tryz.ntmps52;go_wp2_with fail
 go_loop [5] (fun vi=>∃ k:Nat,k<=l.length/\vi = .int .i64 k/\Hid (∀ j,j < k->l[j]?≠some s.data.toList)) (fun vi=>l.length - (intOf vi).toNat)
 case atStart=>exact ⟨0,V0,rfl,Hi fun j hj=>absurd hj V0⟩
 case round=>
  obtain ⟨k,hk,rfl,HQ⟩:=hrel;by_cases hlt:k < l.length
  ·obtain ⟨t,ht⟩:∃ t,l[k]?=some t:=⟨_,List.getElem?_eq_getElem hlt⟩;have ht2:(strs l)[k]?=some (.string ⟨t.toArray⟩):=by simp [ht]
   obtain ⟨b',o,rfl,_,hc⟩:=HA.out.at_ ht2;have e1:=hc _ _ ht2;have HTT:=Hi ht;clear hc ht2 ht;cases hq:(t==s.toList) with
   | true=>
    have hts:t=s.data.toList:=by have:=eq_of_beq hq;rwa [ByteArray.toList_eq] at this
    have HR:=Hi (show b=true from by rw [<-HB.out,List.contains_eq_mem,decide_eq_true_eq,<-hts];exact List.mem_of_getElem? HTT.out);clear hts;exact V3E
   | false=>
    have hts:t≠s.data.toList:=fun e=>by rw [ByteArray.toList_eq,e] at hq;simp at hq
    have HTS:=Hi hts;clear hts;go_wp2_with fail
    go_round
    case rel=>exact ⟨k+1,V0,V5,Hi fun j hj=>by
     by_cases hjk:j < k
     ·exact HQ.out j hjk
     ·obtain rfl:j=k:=by omega
      rw [HTT.out];intro e;exact HTS.out (Option.some.inj e)⟩
    case measure=>simp [intOf];omega
  ·have HR:=Hi (show b=false from by rw [<-HIN.out k HQ.out,List.drop_of_length_le V0];rfl);exact V3E
theorem q0I(w:World)(t:TypeId)(l:List Bs):Lies (w.alloc (.cells (strs l).toArray t)) (some ⟨w.heap.size,0,none⟩) (strs l):=fun j u hj=>⟨_,rfl,by
 rw [Args.add_plain,Nat.zero_add,World.cell?_alloc_at _ _ _ _ rfl];simpa using hj⟩
theorem word(s:ByteArray)(w:World):Calls Tryz.prog 51 #[.string s] w fun e w'=>e = .returned (.bool (wordB s.data.toList))/\Below w.heap.size w w':=by
 have hI:=in_ (some ⟨w.heap.size,0,none⟩) 7 words7 s (w.alloc (.cells (strs words7).toArray 9)) (q0I w 9 words7) V2;have hx:Below w.heap.size w (w.alloc (.cells (strs words7).toArray 9)):=(Below.refl _ _).alloc (Nat.le_refl _) _;have HX:=Hi hx;rw [show words7.contains s.data.toList=wordB s.data.toList from rfl] at hI;generalize wordB s.data.toList=b at *;have HI:=Hi hI;clear hI hx;go_enter Tryz.func51,Tryz.ntmps51;go_wp2_with fail
 refine HI.out.mono ?_;rintro e w' ⟨rfl,rfl⟩;go_wp2_with fail
 go_ret;exact ⟨rfl,HX.out⟩
theorem q4B{c:UInt8}{n:Nat}(h:c.toNat=n):c=UInt8.ofNat n:=by rw [<-h];simp
theorem skip_sp{c:UInt8}{r:Bs}(h:c.toNat = 32\/c.toNat = 9\/c.toNat = 10):skipL false (c :: r)=skipL false r+1:=by
 rcases h with h | h | h <;> (rw [q4B h];rfl)
theorem skip_cm{c d:UInt8}{r:Bs}(h:c.toNat = 47)(h2:d.toNat = 47):skipL false (c :: d :: r)=skipL true (c :: d :: r):=by
 rw [q4B h,q4B h2];rfl
theorem q3W{c:UInt8}{n:Nat}(h:c.toNat≠n)(hn:n < 256):c≠UInt8.ofNat n:=fun e=>h (by rw [e];simp;omega)
theorem q4C{c:UInt8}{r:Bs}(h1:c.toNat≠32)(h2:c.toNat≠9)(h3:c.toNat≠10)(h4:c.toNat = 47->∀ d,r.head?=some d->d.toNat≠47):skipL false (c :: r) = 0:=by
 have e1:=q3W h1 V2;have e2:=q3W h2 V2;have e3:=q3W h3 V2;have f1:c≠32:=e1;have f2:c≠9:=e2;have f3:c≠10:=e3;unfold skipL;rw [if_neg (by simp [f1,f2,f3])];by_cases h:c.toNat = 47
 ·cases r with
  | nil=>simp
  | cons d r=>
   have f4:d≠47:=q3W (h4 h d rfl) V2;rw [if_neg (by simp [f4])]
 ·have f4:c≠47:=q3W h V2;rw [if_neg (by simp [f4])]
theorem cm_nl{c:UInt8}{r:Bs}(h:c.toNat = 10):skipL true (c :: r)=skipL false (c :: r):=by rw [q4B h];rfl
theorem cm_on{c:UInt8}{r:Bs}(h:c.toNat≠10):skipL true (c :: r)=skipL true r+1:=by
 have f:c≠10:=q3W h V2;show (if c==10 then skipL false r+1 else skipL true r+1)=_;rw [if_neg (by simp [f])]
theorem drop_at(s:ByteArray)(k:Nat)(h:k < s.size):s.data.toList.drop k=s[k] :: s.data.toList.drop (k+1):=by
 have h':k < s.data.toList.length:=Vk;rw [List.drop_eq_getElem_cons h'];rfl
theorem q0N(s:ByteArray)(k:Nat)(h:s.size<=k):s.data.toList.drop k=[]:=List.drop_of_length_le Vk
theorem skip(s:ByteArray)(i:Nat)(hi:i<=s.size)(hs:s.size<=100000)(w:World) :
  Calls Tryz.prog 48 #[.string s,.int .i64 (i:Int)] w fun e w'=>e = .returned (.int .i64 ((i+skipL false (s.data.toList.drop i):Nat):Int))/\w=w':=by
 obtain ⟨r,hr⟩:∃ r,i+skipL false (s.data.toList.drop i)=r:=⟨_,rfl⟩;rw [hr];have HR:=Hi hr;clear hr;go_enter Tryz.func48,Tryz.ntmps48;go_wp2_with fail
 go_loop [1] (fun vi=>∃ k:Nat,k<=s.size/\vi = .int .i64 k/\Hid (k+skipL false (s.data.toList.drop k)=r)) (fun vi=>s.size - (intOf vi).toNat)
 case atStart=>exact ⟨i,hi,rfl,HR⟩
 case round=>
  clear HR;obtain ⟨k,hk,rfl,HQ⟩:=hrel;by_cases hlt:k < s.size
  ·have hd:=drop_at s k hlt;have hq:=HQ.out;rw [hd] at hq;have hc:=s[k].toNat_lt;by_cases h32:s[k].toNat = 32\/s[k].toNat = 9\/s[k].toNat = 10
   ·rw [skip_sp h32] at hq;have HN:=Hi (show k+1+skipL false (s.data.toList.drop (k+1))=r from V0);clear hd hq;by_cases n1:s[k].toNat = 32
    ·have e1:((s[k].toNat:Int)==32)=true:=by simp;omega
     clear h32 n1 hc HQ;exact V0I
    ·have e1:((s[k].toNat:Int)==32)=false:=by simp;omega
     by_cases n2:s[k].toNat = 9
     ·have e2:((s[k].toNat:Int)==9)=true:=by simp;omega
      clear h32 n1 n2 hc HQ;exact V0I
     ·have e2:((s[k].toNat:Int)==9)=false:=by simp;omega
      have e3:((s[k].toNat:Int)==10)=true:=V4;clear h32 n1 n2 hc HQ;exact V0I
   ·have n1:s[k].toNat≠32:=by omega
    have n2:s[k].toNat≠9:=V0;have n3:s[k].toNat≠10:=V0;have e1:((s[k].toNat:Int)==32)=false:=V4;have e2:((s[k].toNat:Int)==9)=false:=V4;have e3:((s[k].toNat:Int)==10)=false:=V4;have e10:((s[k].toNat:Int) != 10)=true:=V4;by_cases h47:s[k].toNat = 47
    ·by_cases hk1:k+1 < s.size
     ·have hd1:=drop_at s (k+1) hk1;by_cases h48:s[k+1].toNat = 47
      ·rw [hd1,skip_cm h47 h48,<-hd1,<-hd] at hq;have HN:=Hi hq;have HW:Hid (∀ h:k < s.size,s[k].toNat = 10->k < k):=Hi fun h e=>V0
       have e4:((s[k].toNat:Int)==47)=true:=V4;have e5:((s[k+1].toNat:Int)==47)=true:=V4;have hk1':(k:Int)+1 < (s.size:Int):=V0;clear hd hq hd1 h32 h47 h48 hc n1 n2 n3 HQ;go_wp2_with fail
       go_loop [1] (fun vi=>∃ m:Nat,(m<=s.size/\k<=m)/\vi = .int .i64 m/\Hid (m+skipL true (s.data.toList.drop m)=r)/\Hid (∀ h:m < s.size,s[m].toNat = 10->k < m)) (fun vi=>s.size - (intOf vi).toNat)
       case atStart=>exact ⟨k,⟨V0,Nat.le_refl _⟩,rfl,HN,HW⟩
       case round=>
        clear HN;obtain ⟨m,⟨hm,hkm⟩,rfl,HM,HV⟩:=hrel;by_cases hlt2:m < s.size
        ·have hd2:=drop_at s m hlt2;have hq2:=HM.out;rw [hd2] at hq2;by_cases n10:s[m].toNat = 10
         ·rw [cm_nl n10,<-hd2] at hq2;have HN:=Hi hq2;have hlt3:k < m:=HV.out hlt2 n10;have e6:((s[m].toNat:Int) != 10)=false:=V4;clear hq2 hd2 n10 HM;exact V3F
         ·rw [cm_on n10] at hq2;have HN:=Hi (show m+1+skipL true (s.data.toList.drop (m+1))=r from V0);have e6:((s[m].toNat:Int) != 10)=true:=V4;clear hq2 hd2 n10 HM;go_wp2_with fail
          go_round
          case rel=>exact ⟨m+1,⟨V0,V0⟩,V5,HN,Hi fun _ _=>V0⟩
          case measure=>simp [intOf];omega
        ·rw [q0N s m V0] at HM;have HN:=Hi (show m+skipL false (s.data.toList.drop m)=r by rw [q0N s m V0];exact HM.out);clear HM;exact V3F
      ·have h0:skipL false (s[k] :: s.data.toList.drop (k+1)) = 0:=q4C n1 n2 n3 fun _ d hd'=>by rw [hd1] at hd';cases hd';exact h48
       rw [h0] at hq;have HE:=Hi (show r=k from hq.symm);have e4:((s[k].toNat:Int)==47)=true:=V4;have e5:((s[k+1].toNat:Int)==47)=false:=V4;have hk1':(k:Int)+1 < (s.size:Int):=V0;clear hd hq hd1 h32 h47 h48 hc n1 n2 n3 HQ h0;exact V0L
     ·have h0:skipL false (s[k] :: s.data.toList.drop (k+1)) = 0:=q4C n1 n2 n3 fun _ d hd'=>by rw [q0N s (k+1) V0] at hd';cases hd'
      rw [h0] at hq;have HE:=Hi (show r=k from hq.symm);have e4:((s[k].toNat:Int)==47)=true:=V4;clear hd hq h32 h47 hc n1 n2 n3 HQ h0;exact V0L
    ·have h0:skipL false (s[k] :: s.data.toList.drop (k+1)) = 0:=q4C n1 n2 n3 fun h=>absurd h h47
     rw [h0] at hq;have HE:=Hi (show r=k from hq.symm);have e4:((s[k].toNat:Int)==47)=false:=V4;clear hd hq h32 h47 hc n1 n2 n3 HQ h0;exact V0L
  ·rw [q0N s k V0] at HQ;have HE:=Hi (show r=k from HQ.out.symm);clear HQ;exact V0L
def tkC(t:Tk):List Value:=[.int .i64 (t.k:Int),.string ⟨t.s.toArray⟩,.int .i64 (t.at_:Int)]
theorem q0f{B:Nat}{w w':World}(h:Below B w w')(n:Nat):Below B w (w'.drewN n):=⟨h.os,h.tape,h.output,h.size,h.block⟩
end Lx
namespace Pa
open Lx
def NT.sk:NT->NT
 | .lev n=>.lev n
 | .more n x=>.more n (Pa.sk x)
 | .args l=>.args (skL l)
 | .fin k _ s ps=>.fin k 0 s ps
 | .inner=>.inner
 | .inners l=>.inners (skL l)
 | .stmt=>.stmt
 | .stmts l=>.stmts (skL l)
def Le(o o':OO):Prop:=∀ x,o=some x->o'=some x
theorem le_refl(o:OO):Le o o:=fun _ h=>h
theorem q13{c:Prop}[Decidable c]{o o' p p':OO}(h1:Le o o')(h2:Le p p'):Le (if c then o else p) (if c then o' else p'):=by
 by_cases h:c
 ·rw [if_pos h,if_pos h];exact h1
 ·rw [if_neg h,if_neg h];exact h2
theorem q1o{o o':OO}{f f':List Tr->List Tk->OO}(h:Le o o')(hf:∀ xs r,Le (f xs r) (f' xs r)):Le (bnd o f) (bnd o' f'):=by
 rcases o with _ | ⟨l,r⟩ | ⟨a,e⟩
 ·intro x hx;cases hx
 ·rw [h _ rfl];exact hf l r
 ·rw [h _ rfl];exact le_refl _
theorem q1g{b:Bs}{l:List Tk}{f f':List Tk->OO}(hf:∀ r,Le (f r) (f' r)):Le (must b l f) (must b l f'):=by
 cases l with
 | nil=>exact le_refl _
 | cons t l=>unfold must;exact q13 (hf _) (le_refl _)
theorem q29{l:List Tk}{f f':Bs->List Tk->OO}(hf:∀ s r,Le (f s r) (f' s r)):Le (nameK l f) (nameK l f'):=by
 cases l with
 | nil=>exact le_refl _
 | cons t l=>unfold nameK;exact q13 (hf _ _) (le_refl _)
theorem q5c{f f':List Bs->List Tk->OO}(hf:∀ ps r,Le (f ps r) (f' ps r)):∀ (ps:List Bs) (l:List Tk),Le (namesK ps l f) (namesK ps l f')
 | _,[]=>le_refl _
 | ps,[t]=>by unfold namesK;exact q13 (hf _ _) (le_refl _)
 | ps,t :: u :: r=>by unfold namesK;exact q13 (q13 (q5c hf _ r) (hf _ _)) (le_refl _)
theorem q4D(num:Bs->Nat×Nat):∀ (f g:Nat),f<=g->∀ (nt:NT) (d:Nat) (l:List Tk),Le (pF num f nt d l) (pF num g nt d l):=by
 intro f
 induction f with
 | zero=>intro g _ nt d l x hx;cases hx
 | succ f ih0=>
  intro g hg nt d l;obtain ⟨g,rfl⟩:∃ x,g=x+1:=⟨g - 1,V0⟩;have ih:=ih0 g V0;clear ih0;cases nt with
  | lev n=>
   unfold pF;refine q13 (q1o (ih _ _ _) fun xs r=>ih _ _ _) ?_;cases l with
   | nil=>exact le_refl _
   | cons t r=>
    simp only;refine q13 (le_refl _) (q13 (q1o (ih _ _ _) fun xs r=>le_refl _) (q13 (le_refl _) (q13 (q1o (ih _ _ _) fun xs r=>le_refl _) (q29 fun s r=>?_))));cases r with
    | nil=>exact le_refl _
    | cons u r=>exact q13 (q1o (ih _ _ _) fun xs r=>q1o (ih _ _ _) fun ys r=>le_refl _) (le_refl _)
  | more n x=>
   exact V3u
  | args xs=>
   exact V3u
  | fin k a s ps=>
   unfold pF;exact q1o (ih _ _ _) fun xs r=>le_refl _
  | inner=>
   unfold pF;cases l with
   | nil=>exact le_refl _
   | cons t r=>
    exact q13 (le_refl _) (q13 (q29 fun s r=>q1g fun r=>q1o (ih _ _ _) fun xs r=>q1g fun r=>q1o (ih _ _ _) fun ys r=>q1g fun r=>q1o (ih _ _ _) fun zs r=>le_refl _) (q29 fun s r=>q1g fun r=>ih _ _ _))
  | inners zs=>
   unfold pF;cases l with
   | nil=>exact le_refl _
   | cons t r=>exact q13 (le_refl _) (q1o (ih _ _ _) fun xs r=>ih _ _ _)
  | stmt=>
   unfold pF;cases l with
   | nil=>exact le_refl _
   | cons t r=>
    exact q13 (le_refl _) (q13 (le_refl _) (q13 (q29 fun s r=>q1g fun r=>ih _ _ _) (q13 (q29 fun s r=>q1g fun r=>ih _ _ _)
     (q13 (q29 fun s r=>q1g fun r=>q5c (fun ps r=>q1g fun r=>q1g fun r=>ih _ _ _) _ _) (ih _ _ _)))))
  | stmts xs=>
   unfold pF;cases l with
   | nil=>exact le_refl _
   | cons t r=>exact q13 (le_refl _) (q1o (ih _ _ _) fun ys r=>ih _ _ _)
theorem pF_one{num:Bs->Nat×Nat}{f g:Nat}{nt:NT}{d:Nat}{l:List Tk}{o o':Out}(h:pF num f nt d l=some o)(h':pF num g nt d l=some o'):o=o':=by
 have h1:=q4D num f (max f g) (Nat.le_max_left _ _) nt d l o h;have h2:=q4D num g (max f g) (Nat.le_max_right _ _) nt d l o' h';rw [h1] at h2;exact Option.some.inj h2
def Et(l:List Tk):Prop:=∃ u e,l=u ++ [e]/\e.k = 0/\∀ t∈u,t.k≠0
theorem q1W:¬ Et []:=fun ⟨u,e,h,_⟩=>by cases u <;> cases h
theorem q0h{t:Tk}{r:List Tk}(h:Et (t :: r))(ht:t.k≠0):Et r:=by
 obtain ⟨u,e,h1,h2,h3⟩:=h;cases u with
 | nil=>simp only [List.nil_append,List.cons.injEq] at h1;rw [h1.1] at ht;exact absurd h2 ht
 | cons x u=>simp only [List.cons_append,List.cons.injEq] at h1;exact ⟨u,e,h1.2,h2,fun t ht=>h3 t (List.mem_cons_of_mem _ ht)⟩
def Gd(l:List Tk):OO->Prop
 | none=>True
 | some (.ok _ r)=>Et r/\r <:+ l
 | some (.bad a e)=>(∃ t∈l,a=t.at_)/\(e = 100\/e = 150)
theorem q5K{l l':List Tk}{o:OO}(h:Gd l o)(hl:l <:+ l'):Gd l' o:=by
 rcases o with _ | ⟨xs,r⟩ | ⟨a,e⟩
 ·trivial
 ·exact ⟨h.1,h.2.trans hl⟩
 ·obtain ⟨⟨t,ht,ha⟩,he⟩:=h;exact ⟨⟨t,hl.subset ht,ha⟩,he⟩
theorem q1h{l:List Tk}(h:Et l){e:Nat}(he:e = 100\/e = 150):Gd l (wrong l e):=by
 cases l with
 | nil=>exact absurd h q1W
 | cons t r=>exact ⟨⟨t,List.mem_cons_self ..,rfl⟩,he⟩
theorem q2a{l r:List Tk}(xs:List Tr)(h:Et r)(hl:r <:+ l):Gd l (some (.ok xs r)):=⟨h,hl⟩
theorem q0P{l:List Tk}{c:Prop}[Decidable c]{o p:OO}(h1:c->Gd l o)(h2:¬ c->Gd l p):Gd l (if c then o else p):=by
 by_cases h:c
 ·rw [if_pos h];exact h1 h
 ·rw [if_neg h];exact h2 h
theorem q17{l:List Tk}{o:OO}{f:List Tr->List Tk->OO}(h:Gd l o)(hf:∀ xs r,Et r->r <:+ l->Gd r (f xs r)):Gd l (bnd o f):=by
 rcases o with _ | ⟨xs,r⟩ | ⟨a,e⟩
 ·trivial
 ·exact q5K (hf xs r h.1 h.2) h.2
 ·exact h
theorem q0u{b:Bs}{l:List Tk}{f:List Tk->OO}(h:Et l)(hf:∀ r,Et r->Gd r (f r)):Gd l (must b l f):=by
 cases l with
 | nil=>exact absurd h q1W
 | cons t r=>
  refine q0P (fun hb=>q5K (hf r (q0h h ?_)) (List.suffix_cons t r)) fun _=>q1h h (.inl rfl)
  unfold isS at hb;simp only [Bool.and_eq_true,decide_eq_true_eq] at hb;omega
theorem q2b{l:List Tk}{f:Bs->List Tk->OO}(h:Et l)(hf:∀ s r,Et r->Gd r (f s r)):Gd l (nameK l f):=by
 cases l with
 | nil=>exact absurd h q1W
 | cons t r=>exact q0P (fun hb=>q5K (hf t.s r (q0h h V0)) (List.suffix_cons t r)) fun _=>q1h h (.inl rfl)
theorem q1J{b:Bs}{t:Tk}(h:isS b t=true):t.k≠0:=by
 unfold isS at h;simp only [Bool.and_eq_true,decide_eq_true_eq] at h;omega
theorem q2t{f:List Bs->List Tk->OO}(hf:∀ ps r,Et r->Gd r (f ps r)):∀ (ps:List Bs) (l:List Tk),Et l->Gd l (namesK ps l f)
 | _,[],h=>absurd h q1W
 | ps,[t],h=>by
  unfold namesK;exact q0P (fun hb=>absurd (q0h h V0) q1W) fun _=>q1h h (.inl rfl)
 | ps,t :: u :: r,h=>by
  unfold namesK;refine q0P (fun hb=>?_) fun _=>q1h h (.inl rfl)
  have h2:=q0h h V0;exact q0P (fun hu=>q5K (q2t hf _ r (q0h h2 (q1J hu))) ((List.suffix_cons u r).trans (List.suffix_cons t _))) fun _=>q5K (hf _ _ h2) (List.suffix_cons t _)
theorem on_k{n:Nat}{t:Tk}(h:onS n t=true):t.k≠0:=by
 unfold onS at h;simp only [Bool.and_eq_true,beq_iff_eq] at h;omega
theorem pF_good(num:Bs->Nat×Nat):∀ (f:Nat) (nt:NT) (d:Nat) (l:List Tk),Et l->Gd l (pF num f nt d l):=by
 intro f
 induction f with
 | zero=>intros;trivial
 | succ f ih=>
  intro nt d l h;have one:∀ {t:Tk} {r:List Tk} {o:OO},Gd r o->Gd (t :: r) o:=fun {t r o} hg=>q5K hg (List.suffix_cons t r)
  cases l with
  | nil=>exact absurd h q1W
  | cons t r=>
  cases nt with
  | lev n=>
   unfold pF;refine q0P (fun _=>q17 (ih _ _ _ h) fun xs r hr _=>ih _ _ _ hr) fun _=>?_
   refine q0P (fun _=>q1h h (.inr rfl)) fun _=>q0P (fun hs=>?_) fun _=>q0P (fun hk=>?_) fun _=>q0P (fun hs=>?_) fun _=>q2b h fun s r hr=>?_
   ·have hr:Et r:=q0h h (by
     rcases Bool.or_eq_true_iff.1 hs with hs | hs <;> exact q1J hs)
    exact one (q17 (ih _ _ _ hr) fun xs r' hr' _=>q2a _ hr' (List.suffix_refl _))
   ·refine q0P (fun _=>q2a _ (q0h h V0) (List.suffix_cons t r)) fun _=>q1h h ?_
    by_cases h4:(num t.s).2 = 4
    ·rw [if_pos h4];exact .inl rfl
    ·rw [if_neg h4];exact .inr rfl
   ·exact one (q17 (ih _ _ _ (q0h h (q1J hs))) fun xs r' hr' _=>q0u hr' fun r2 hr2=>q2a _ hr2 (List.suffix_refl _))
   ·cases r with
    | nil=>exact absurd hr q1W
    | cons u r'=>
     refine q0P (fun hu=>?_) fun _=>q2a _ hr (List.suffix_refl _)
     exact one (q17 (ih _ _ _ (q0h hr (q1J hu))) fun xs r2 hr2 _=>q17 (ih _ _ _ hr2) fun ys r3 hr3 _=>q0u hr3 fun r4 hr4=>q2a _ hr4 (List.suffix_refl _))
  | more n x=>
   unfold pF;exact q0P (fun hs=>one (q17 (ih _ _ _ (q0h h (on_k hs))) fun ys r' hr' _=>ih _ _ _ hr')) fun _=>q2a _ h (List.suffix_refl _)
  | args xs=>
   unfold pF;exact q0P (fun hs=>one (q17 (ih _ _ _ (q0h h (q1J hs))) fun ys r' hr' _=>ih _ _ _ hr')) fun _=>q2a _ h (List.suffix_refl _)
  | fin k a s ps=>
   unfold pF;exact q17 (ih _ _ _ h) fun xs r hr _=>q0u hr fun r' hr'=>q2a _ hr' (List.suffix_refl _)
  | inner=>
   unfold pF;exact q0P (fun _=>q1h h (.inr rfl)) fun _=>q0P (fun hs=>one (q2b (q0h h (q1J hs)) fun s r hr=>q0u hr fun r hr=>q17 (ih _ _ _ hr) fun xs r hr _=>q0u hr fun r hr=>q17 (ih _ _ _ hr) fun ys r hr _=>q0u hr fun r hr=>q17 (ih _ _ _ hr) fun zs r hr _=>q2a _ hr (List.suffix_refl _)))
    fun _=>q2b h fun s r hr=>q0u hr fun r hr=>ih _ _ _ hr
  | inners zs=>
   unfold pF;exact q0P (fun hs=>q2a _ (q0h h (q1J hs)) (List.suffix_cons t r)) fun _=>q17 (ih _ _ _ h) fun xs r hr _=>ih _ _ _ hr
  | stmt=>
   unfold pF;refine q0P (fun hs=>one (q2t (fun ps r hr=>?_) _ _ (q0h h (q1J hs)))) fun _=>q0P (fun hs=>one (q2t (fun ps r hr=>?_) _ _ (q0h h (q1J hs)))) fun _=>q0P (fun hs=>one (q2b (q0h h (q1J hs)) fun s r hr=>?_)) fun _=>
    q0P (fun hs=>one (q2b (q0h h (q1J hs)) fun s r hr=>?_)) fun _=>q0P (fun hs=>one (q2b (q0h h (q1J hs)) fun s r hr=>?_)) fun _=>ih _ _ _ h
   ·exact q0u hr fun r hr=>q2a _ hr (List.suffix_refl _)
   ·exact q0u hr fun r hr=>q2a _ hr (List.suffix_refl _)
   ·exact q0u hr fun r hr=>ih _ _ _ hr
   ·exact q0u hr fun r hr=>ih _ _ _ hr
   ·refine q0u hr fun r hr=>q2t (fun ps r hr=>?_) _ _ hr
    exact q0u hr fun r hr=>q0u hr fun r hr=>ih _ _ _ hr
  | stmts xs=>
   unfold pF;exact q0P (fun _=>q2a _ h (List.suffix_refl _)) fun _=>q17 (ih _ _ _ h) fun ys r hr _=>ih _ _ _ hr
def Lo(S:Prop)(e:Tk)(l2:List Tk)(o o':OO):Prop:=∀ ys v,o=some (.ok ys (v ++ [e]))->(S->v≠[])->o'=some (.ok ys (v ++ l2))
section
variable {e : Tk} {l2 : List Tk}
end
def pre(a:List Tr):Out->Out
 | .ok l r=>.ok (a ++ l) r
 | .bad p e=>.bad p e
theorem q5d{s:Bs}(h:(wordsL s).er = 0):Et (wordsL s).l:=by
 obtain ⟨hne,ho⟩:=q1M s h;refine ⟨(wordsL s).l.dropLast,(wordsL s).l.getLast hne,(List.dropLast_concat_getLast hne).symm,?_,fun t ht=>?_⟩
 ·have hl:=List.length_pos_iff.2 hne;have hx:(wordsL s).l[(wordsL s).l.length - 1]?=some ((wordsL s).l.getLast hne):=by
   rw [List.getLast_eq_getElem,List.getElem?_eq_getElem V0]
  exact ((ho _ _ hx).2.2.1).2 V0
 ·obtain ⟨j,hj,hjt⟩:=List.getElem_of_mem ht;rw [List.length_dropLast] at hj;rw [List.getElem_dropLast] at hjt;have hx:(wordsL s).l[j]?=some t:=by rw [List.getElem?_eq_getElem V0,hjt]
  intro hk;have:=((ho j t hx).2.2.1).1 hk;omega
theorem tells{num:Bs->Nat×Nat}{s:Bs}(h:(wordsL s).er = 0){f d a e:Nat}{nt:NT}(hp:pF num f nt d (wordsL s).l=some (.bad a e)):a<=s.length/\(e = 100\/e = 150):=by
 have hg:=pF_good num f nt d _ (q5d h);rw [hp] at hg;obtain ⟨⟨t,ht,rfl⟩,he⟩:=hg;obtain ⟨j,hj,hjt⟩:=List.getElem_of_mem ht;have:=((q1M s h).2 j t (by rw [List.getElem?_eq_getElem hj,hjt])).1;exact ⟨V0,he⟩
def Okt(t:Tk):Prop:=(t.k = 0/\t.s=[])\/(t.k = 1/\wordB t.s=false/\∃ c r,t.s=c :: r/\letB c=true)\/(t.k = 2/\∃ c r,t.s=c :: r/\letB c=false/\numB c=true)\/(t.k = 3/\wordB t.s=true) \/
 (t.k = 4/\(t.s=[60,60,60]\/t.s∈signs2\/∃ c,c∈signs1/\t.s=[c]))
theorem tok_okt{c:UInt8}{r:Bs}{k m:Nat}(h:tokC c r=some (k,m))(i:Nat):Okt ⟨k,(c :: r).take m,i⟩:=by
 unfold tokC at h;split at h
 ·rename_i hl;split at h
  ·rename_i hw;cases h;exact .inr (.inr (.inr (.inl ⟨rfl,by show wordB (c :: r.take _)=true;exact hw⟩)))
  ·rename_i hw;split at h
   ·cases h
   ·cases h;exact .inr (.inl ⟨rfl,by show wordB (c :: r.take _)=false;simpa using hw,c,_,rfl,hl⟩)
 ·rename_i hl;split at h
  ·rename_i hn;cases h;exact .inr (.inr (.inl ⟨rfl,c,_,rfl,by simpa using hl,hn⟩))
  ·split at h
   ·rename_i h3;cases h;exact .inr (.inr (.inr (.inr ⟨rfl,.inl h3⟩)))
   ·split at h
    ·rename_i h3;cases h;exact .inr (.inr (.inr (.inr ⟨rfl,.inr (.inl h3)⟩)))
    ·split at h
     ·rename_i h3;cases h;exact .inr (.inr (.inr (.inr ⟨rfl,.inr (.inr ⟨c,h3,rfl⟩)⟩)))
     ·cases h
theorem q63:∀ (f:Nat) (bs:Bs) (i n:Nat),∀ t∈(goL f bs i n).l,Okt t
 | 0,_,_,_,t,ht=>by cases ht
 | f+1,[],i,n,t,ht=>by
  have e:goL (f+1) [] i n=if n = 4000 then ⟨[],i,150⟩ else ⟨[⟨0,[],i⟩],0,0⟩:=rfl
  rw [e] at ht;split at ht
  ·cases ht
  ·cases ht with
   | head=>exact .inl ⟨rfl,rfl⟩
   | tail _ h=>cases h
 | f+1,c :: r,i,n,t,ht=>by
  rcases hk:tokC c r with _ | ⟨k,m⟩
  ·rw [q3h hk] at ht;cases ht
  ·rw [q1Q hk] at ht;split at ht
   ·cases ht
   ·unfold Wd.cons at ht;split at ht
    ·cases ht with
     | head=>exact tok_okt hk i
     | tail _ h=>exact q63 f _ _ _ t h
    ·exact q63 f _ _ _ t ht
theorem q64(s:Bs):∀ t∈(wordsL s).l,Okt t:=by
 unfold wordsL;split
 ·intro t ht;cases ht
 ·exact q63 _ _ _ _
def litB(b:Bs):Bool:=match b with
 | []=>false
 | c :: _=>!numB c && (wordB b || !letB c)
theorem q0v{t:Tk}(h:Okt t)(hb:litB t.s=true):2 < t.k:=by
 rcases h with ⟨_,h⟩ | ⟨_,hw,c,r,h,hl⟩ | ⟨_,c,r,h,hl,hn⟩ | ⟨h,_⟩ | ⟨h,_⟩
 ·rw [h] at hb;cases hb
 ·rw [h] at hb hw;simp only [litB,hw,hl,Bool.not_true,Bool.or_false,Bool.and_false] at hb;cases hb
 ·rw [h] at hb;simp only [litB,hn,Bool.not_true,Bool.false_and] at hb;cases hb
 ·omega
 ·omega
theorem q0m{t:Tk}(h:Okt t){b:Bs}(hb:litB b=true):isS b t=(t.s==b):=by
 unfold isS;by_cases e:t.s=b
 ·subst e;have:=q0v h hb;simp [this]
 ·have:(t.s==b)=false:=by simpa using e
  rw [this,Bool.and_false]
def levT(s:Bs):Nat:=if s=[124] then 1 else if s=[94] then 2 else if s=[38] then 3 else if s=[60,60]\/s=[62,62]\/s=[60,60,60] then 4 else if s=[43]\/s=[45] then 5 else 0
def kindT(s:Bs):Nat:=if levT s = 0 then 0 else if levT s = 4 then 4 else 3
theorem levT_le(s:Bs):levT s<=5:=by
 unfold levT;repeat' split
 all_goals omega
theorem q65{t:Tk}(h:Okt t)(hl:levT t.s≠0):t.k = 4:=by
 have h0:t.s=[124]\/t.s=[94]\/t.s=[38]\/t.s=[60,60]\/t.s=[62,62]\/t.s=[60,60,60]\/t.s=[43]\/t.s=[45]:=by
  unfold levT at hl;by_cases h1:t.s=[124]
  ·exact .inl h1
  rw [if_neg h1] at hl;by_cases h2:t.s=[94]
  ·exact .inr (.inl h2)
  rw [if_neg h2] at hl;by_cases h3:t.s=[38]
  ·exact .inr (.inr (.inl h3))
  rw [if_neg h3] at hl;by_cases h4:t.s=[60,60]\/t.s=[62,62]\/t.s=[60,60,60]
  ·rcases h4 with h4 | h4 | h4
   ·exact .inr (.inr (.inr (.inl h4)))
   ·exact .inr (.inr (.inr (.inr (.inl h4))))
   ·exact .inr (.inr (.inr (.inr (.inr (.inl h4)))))
  rw [if_neg h4] at hl;by_cases h5:t.s=[43]\/t.s=[45]
  ·rcases h5 with h5 | h5
   ·exact .inr (.inr (.inr (.inr (.inr (.inr (.inl h5))))))
   ·exact .inr (.inr (.inr (.inr (.inr (.inr (.inr h5))))))
  rw [if_neg h5] at hl;exact absurd rfl hl
 have hb:litB t.s=true/\wordB t.s=false:=by
  rcases h0 with h | h | h | h | h | h | h | h <;> rw [h] <;> decide
 have h2:=q0v h hb.1;rcases h with ⟨h,_⟩ | ⟨h,_⟩ | ⟨h,_⟩ | ⟨_,h⟩ | ⟨h,_⟩
 ·omega
 ·omega
 ·omega
 ·rw [hb.2] at h;cases h
 ·exact h
theorem q66{t:Tk}(h:Okt t){q:Nat}(hq:q < 5):onS q t=decide (levT t.s=q+1):=by
 unfold onS;have hc:(sOf q).contains t.s=decide (levT t.s=q+1):=by
  generalize t.s=s;obtain rfl | rfl | rfl | rfl | rfl:q = 0\/q = 1\/q = 2\/q = 3\/q = 4:=V0
  all_goals
   by_cases h0:s=[124]
   ·subst h0;decide
   by_cases h1:s=[94]
   ·subst h1;decide
   by_cases h2:s=[38]
   ·subst h2;decide
   by_cases h3:s=[60,60]
   ·subst h3;decide
   by_cases h4:s=[62,62]
   ·subst h4;decide
   by_cases h5:s=[60,60,60]
   ·subst h5;decide
   by_cases h6:s=[43]
   ·subst h6;decide
   by_cases h7:s=[45]
   ·subst h7;decide
   simp [levT,sOf,h0,h1,h2,h3,h4,h5,h6,h7]
 rw [hc];by_cases he:levT t.s=q+1
 ·have:=q65 h V0;simp [he,this]
 ·simp [he]
end Pa
namespace Pa
open Go Go.ChangeShapes Go.WideShapes Go.ChangeAt Go.RowKit Lx Args
structure Gt(l:List Tk):Prop where
 et:Et l
 ok:∀ t∈l,Okt t/\t.s.length<=20000
 few:l.length<=4000
theorem Gt.cons{l:List Tk}(h:Gt l):∃ t r,l=t :: r:=by
 cases l with
 | nil=>exact absurd h.et q1W
 | cons t r=>exact ⟨t,r,rfl⟩
theorem Gt.tail{t:Tk}{r:List Tk}(h:Gt (t :: r))(ht:t.k≠0):Gt r:=
 ⟨q0h h.et ht,fun u hu=>h.ok u (List.mem_cons_of_mem _ hu),by have:=h.few;simp at this;omega⟩
theorem Gt.suf{l r:List Tk}(h:Gt l)(he:Et r)(hs:r <:+ l):Gt r:=
 ⟨he,fun u hu=>h.ok u (hs.subset hu),Nat.le_trans hs.length_le h.few⟩
theorem Gt.hd{t:Tk}{r:List Tk}(h:Gt (t :: r)):Okt t:=(h.ok t (List.mem_cons_self ..)).1
structure PS(w:World)(bp:Nat)(l:List Tk)(d:Nat):Prop where
 ex:∃ b o c,b < bp/\Blk w bp 162 #[.slice (some ⟨b,o,none⟩) l.length c,.int .i64 (d:Int)]/\Lies w (some ⟨b,o,none⟩) (l.flatMap tkC)/\l.length<=c/\c<=maxLen
abbrev UB(bp:Nat)(w w':World):Prop:=Upd (fun b=>b=bp) w w'
theorem PS.lt{w:World}{bp:Nat}{l:List Tk}{d:Nat}(h:PS w bp l d):bp < w.heap.size:=by
 obtain ⟨b,o,c,_,hb,_⟩:=h;exact hb.lt
theorem Blk.c2{w:World}{g:Nat}{t:TypeId}{a b:Value}(h:Blk w g t #[a,b]):w.cell? ⟨g,0,none⟩=some a/\w.cell? ⟨g,1,none⟩=some b/\w.frozen? ⟨g,0,none⟩=false/\w.frozen? ⟨g,1,none⟩=false:=⟨h.cell 0,h.cell 1,h.frozen 0,h.frozen 1⟩
theorem Blk.c3{w:World}{g:Nat}{t:TypeId}{a b c:Value}(h:Blk w g t #[a,b,c]):w.cell? ⟨g,0,none⟩=some a/\w.cell? ⟨g,1,none⟩=some b/\w.cell? ⟨g,2,none⟩=some c/\w.frozen? ⟨g,0,none⟩=false/\w.frozen? ⟨g,1,none⟩=false/\w.frozen? ⟨g,2,none⟩=false:=
 ⟨h.cell 0,h.cell 1,h.cell 2,h.frozen 0,h.frozen 1,h.frozen 2⟩
theorem Blk.c6{w:World}{g:Nat}{t:TypeId}{a b c d e f:Value}(h:Blk w g t #[a,b,c,d,e,f]):(w.cell? ⟨g,0,none⟩=some a/\w.cell? ⟨g,1,none⟩=some b/\w.cell? ⟨g,2,none⟩=some c/\w.cell? ⟨g,3,none⟩=some d/\w.cell? ⟨g,4,none⟩=some e/\w.cell? ⟨g,5,none⟩=some f) /\
  w.frozen? ⟨g,0,none⟩=false/\w.frozen? ⟨g,1,none⟩=false/\w.frozen? ⟨g,2,none⟩=false/\w.frozen? ⟨g,3,none⟩=false/\w.frozen? ⟨g,4,none⟩=false/\w.frozen? ⟨g,5,none⟩=false:=
 ⟨⟨h.cell 0,h.cell 1,h.cell 2,h.cell 3,h.cell 4,h.cell 5⟩,h.frozen 0,h.frozen 1,h.frozen 2,h.frozen 3,h.frozen 4,h.frozen 5⟩
theorem PS.below{w w':World}{bp:Nat}{l:List Tk}{d:Nat}(h:PS w bp l d)(hb:Below w.heap.size w w'):PS w' bp l d:=by
 obtain ⟨b,o,c,hn,h1,h2,h3⟩:=h;exact ⟨b,o,c,hn,h1.below hb h1.lt,h2.below hb,h3⟩
theorem PS.far{X:Nat->Prop}{w w':World}{bp:Nat}{l:List Tk}{d:Nat}(h:PS w bp l d)(hu:Upd X w w')(hX:∀ b,X b->bp < b):PS w' bp l d:=by
 obtain ⟨b,o,c,hn,h1,h2,h3⟩:=h;exact ⟨b,o,c,hn,h1.upd hu fun hx=>by have:=hX bp hx;omega,hu.lies h2 fun b' o' e _ hx=>by cases e;have:=hX _ hx;omega,h3⟩
theorem q3X(t:Tk)(r:List Tk):(t :: r).flatMap tkC = .int .i64 (t.k:Int) :: .string ⟨t.s.toArray⟩ :: .int .i64 (t.at_:Int) :: r.flatMap tkC:=rfl
theorem PS.head{w:World}{bp:Nat}{t:Tk}{r:List Tk}{d:Nat}(h:PS w bp (t :: r) d):∃ b o c,b < bp/\r.length+1<=c/\c<=maxLen/\w.cell? ⟨bp,0,none⟩=some (.slice (some ⟨b,o,none⟩) (r.length+1) c)/\w.cell? ⟨bp,1,none⟩=some (.int .i64 (d:Int)) /\
  w.frozen? ⟨bp,0,none⟩=false/\w.frozen? ⟨bp,1,none⟩=false /\
  w.cell? ⟨b,o,none⟩=some (.int .i64 (t.k:Int))/\w.cell? ⟨b,o+1,none⟩=some (.string ⟨t.s.toArray⟩)/\w.cell? ⟨b,o+2,none⟩=some (.int .i64 (t.at_:Int)):=by
 obtain ⟨b,o,c,hn,h1,h2,h3,h4⟩:=h;rw [q3X] at h2;have f0:=h2 0 _ rfl;have f1:=h2 1 _ rfl;have f2:=h2 2 _ rfl;obtain ⟨a0,e0,f0⟩:=f0;obtain ⟨a1,e1,f1⟩:=f1;obtain ⟨a2,e2,f2⟩:=f2;cases e0;cases e1;cases e2;rw [Args.add_plain] at f0 f1 f2;exact ⟨b,o,c,hn,h3,h4,h1.cell 0,h1.cell 1,h1.frozen 0,h1.frozen 1,f0,f1,f2⟩
theorem PS.take{w:World}{bp:Nat}{t:Tk}{r:List Tk}{d b o c:Nat}(h:PS w bp (t :: r) d)(hc:w.cell? ⟨bp,0,none⟩=some (.slice (some ⟨b,o,none⟩) (r.length+1) c)) :
  PS (w.setCell ⟨bp,0,none⟩ (.slice (some ⟨b,o+3,none⟩) r.length (c - 1))) bp r d:=by
 obtain ⟨b',o',c',hn,h1,h2,h3,h4⟩:=h;have e:=h1.cell 0;rw [hc] at e;simp at e;obtain ⟨⟨rfl,rfl⟩,rfl⟩:=e;simp only [List.length_cons] at h3;refine ⟨b,o+3,c - 1,hn,?_,?_,V0,V0⟩
 ·exact h1.set 0 _
 ·intro j u hj;refine ⟨_,rfl,?_⟩;rw [Args.add_plain];have h5:=h2 (j+3) u (by rw [q3X];simpa using hj);obtain ⟨a,ea,h5⟩:=h5;cases ea;rw [Args.add_plain] at h5;rw [show o+3+j=o+(j+3) from V0,<-h5];exact World.cell?_of_block (a:=⟨b,o+(j+3),none⟩) (Below.heap_setCell w _ _ b (Nat.ne_of_lt hn))
theorem PS.deep{w:World}{bp:Nat}{l:List Tk}{d:Nat}(h:PS w bp l d)(d':Nat):PS (w.setCell ⟨bp,1,none⟩ (.int .i64 (d':Int))) bp l d':=by
 obtain ⟨b,o,c,hn,h1,h2,h3⟩:=h;refine ⟨b,o,c,hn,h1.set 1 _,?_,h3⟩;intro j u hj;obtain ⟨a,ea,h5⟩:=h2 j u hj;cases ea;refine ⟨_,rfl,?_⟩;rw [Args.add_plain] at h5 ⊢;rw [<-h5];exact World.cell?_of_block (a:=⟨b,o+j,none⟩) (Below.heap_setCell w _ _ b (Nat.ne_of_lt hn))
section
theorem szTk:(Tryz.prog.info? 63).map (·.size)=some 3:=V1
theorem szNd:(Tryz.prog.info? 26).map (·.size)=some 6:=V1
theorem szWr:(Tryz.prog.info? 158).map (·.size)=some 2:=V1
theorem fTk0(k a:Int)(s:ByteArray)(w:World):(Instr.field 63 (.agg #[.int .i64 k,.string s,.int .i64 a]) 0).run Tryz.prog w = .ok (.int .i64 k) w:=V1
theorem fTk1(k a:Int)(s:ByteArray)(w:World):(Instr.field 63 (.agg #[.int .i64 k,.string s,.int .i64 a]) 1).run Tryz.prog w = .ok (.string s) w:=V1
theorem fTk2(k a:Int)(s:ByteArray)(w:World):(Instr.field 63 (.agg #[.int .i64 k,.string s,.int .i64 a]) 2).run Tryz.prog w = .ok (.int .i64 a) w:=V1
attribute [local go_sem] fTk0 fTk1 fTk2
theorem resTk{fn:Func}{p:Tmp}(h:fn.results = #[.cell p 63]){tmps:Array Value}{W:World}{g:Nat}{t:TypeId}{cs:Array Value}(hp:tmps.getD p undef = .pointer (some ⟨g,0,none⟩))(hg:Blk W g t cs)(hs:some 3=some cs.size) :
  (results fn tmps).run Tryz.prog W = .ok (.agg cs) W:=results_cell_row h tmps W g t cs (0,0) _ hp hg Tryz.underlying63 rfl (szTk.trans hs)
theorem resNd{fn:Func}{p:Tmp}(h:fn.results = #[.cell p 26]){tmps:Array Value}{W:World}{g:Nat}{t:TypeId}{cs:Array Value}(hp:tmps.getD p undef = .pointer (some ⟨g,0,none⟩))(hg:Blk W g t cs)(hs:some 6=some cs.size) :
  (results fn tmps).run Tryz.prog W = .ok (.agg cs) W:=results_cell_row h tmps W g t cs (0,0) _ hp hg Tryz.underlying26 rfl (szNd.trans hs)
theorem resWr{fn:Func}{p:Tmp}(h:fn.results = #[.cell p 158]){tmps:Array Value}{W:World}{g:Nat}{t:TypeId}{cs:Array Value}(hp:tmps.getD p undef = .pointer (some ⟨g,0,none⟩))(hg:Blk W g t cs)(hs:some 2=some cs.size) :
  (results fn tmps).run Tryz.prog W = .ok (.agg cs) W:=results_cell_row h tmps W g t cs (0,0) _ hp hg Tryz.underlying158 rfl (szWr.trans hs)
theorem Blk.put2{w:World}{g:Nat}{t:TypeId}{a b:Value}(h:Blk w g t #[a,b])(a' b':Value):Blk ((w.setCell ⟨g,0,none⟩ a').setCell ⟨g,1,none⟩ b') g t #[a',b']:=(h.set 0 a').set 1 b'
theorem Blk.put3{w:World}{g:Nat}{t:TypeId}{a b c:Value}(h:Blk w g t #[a,b,c])(a' b' c':Value):Blk (((w.setCell ⟨g,0,none⟩ a').setCell ⟨g,1,none⟩ b').setCell ⟨g,2,none⟩ c') g t #[a',b',c']:=((h.set 0 a').set 1 b').set 2 c'
def put6(w:World)(g:Nat)(a b c d e f:Value):World:=(((((w.setCell ⟨g,0,none⟩ a).setCell ⟨g,1,none⟩ b).setCell ⟨g,2,none⟩ c).setCell ⟨g,3,none⟩ d).setCell ⟨g,4,none⟩ e).setCell ⟨g,5,none⟩ f
theorem Blk.put6{w:World}{g:Nat}{t:TypeId}{a b c d e f:Value}(h:Blk w g t #[a,b,c,d,e,f])(a' b' c' d' e' f':Value):Blk (put6 w g a' b' c' d' e' f') g t #[a',b',c',d',e',f']:=(((((h.set 0 a').set 1 b').set 2 c').set 3 d').set 4 e').set 5 f'
theorem q0e{w:World}{g g0:Nat}{t:TypeId}{cs:Array Value}(h:Blk w g t cs)(hg:g≠g0)(a b c d e f:Value):Blk (put6 w g0 a b c d e f) g t cs:=(((((h.far (p:=⟨g0,0,none⟩) hg a).far (p:=⟨g0,1,none⟩) hg b).far (p:=⟨g0,2,none⟩) hg c).far (p:=⟨g0,3,none⟩) hg d).far (p:=⟨g0,4,none⟩) hg e).far (p:=⟨g0,5,none⟩) hg f
theorem q02{X:Nat->Prop}{w0 w:World}{g:Nat}(h:Upd X w0 w)(hg:g < w0.heap.size->X g)(a b c d e f:Value):Upd X w0 (put6 w g a b c d e f):=
 (((((h.setCell (p:=⟨g,0,none⟩) hg a).setCell (p:=⟨g,1,none⟩) hg b).setCell (p:=⟨g,2,none⟩) hg c).setCell (p:=⟨g,3,none⟩) hg d).setCell (p:=⟨g,4,none⟩) hg e).setCell (p:=⟨g,5,none⟩) hg f
theorem next(w:World)(bp d:Nat)(t:Tk)(r:List Tk)(hp:PS w bp (t :: r) d) :
  Calls Tryz.prog 101 #[.pointer (some ⟨bp,0,none⟩)] w fun e w'=>e = .returned (.agg #[.int .i64 (t.k:Int),.string ⟨t.s.toArray⟩,.int .i64 (t.at_:Int)])/\Below w.heap.size w w':=by
 obtain ⟨b,o,c,hn,hc1,hc2,f0,f1,f2,f3,f4,f5,f6⟩:=hp.head;have hlt:=hp.lt;have hbl:b < w.heap.size:=World.block_lt_of_cell? w _ f4;have HN:=Hi hn;clear hn hp;go_enter Tryz.func101,Tryz.ntmps101;go_wp2_with fail
 refine bodyPost_ret (resTk rfl rfl (Blk.new _ _ _) rfl) rfl ⟨rfl,?_⟩;exact (Below.refl _ _).alloc (Nat.le_refl _) _
theorem q00{bp:Nat}{w w':World}(h:Below w.heap.size w w'):UB bp w w':=Upd.of_below h _
theorem here(w:World)(bp d:Nat)(t:Tk)(r:List Tk)(er:Int)(hp:PS w bp (t :: r) d) :
  Calls Tryz.prog 102 #[.pointer (some ⟨bp,0,none⟩),.int .i64 er] w fun e w'=>e = .returned (.agg #[.int .i64 (t.at_:Int),.int .i64 er])/\Below w.heap.size w w':=by
 obtain ⟨w0,hw0,hb0,hB⟩:=alK w #[.int .i64 0,.int .i64 0] 158;have HN:=Hi (next w0 bp d t r (hp.below hb0));have HB0:=Hi hb0;have HB:=Hi hB;have HW:=Hi hw0;clear hb0 hB hp hw0;go_enter Tryz.func102,Tryz.ntmps102;go_wp2_with fail
 rw [HW.out];refine HN.out.mono ?_;rintro e w1 ⟨rfl,hb1⟩;have hlt:=HB.out.lt;have h1:Blk w1 w.heap.size 158 #[.int .i64 0,.int .i64 0]:=HB.out.below hb1 hlt;have c0:w1.cell? ⟨w.heap.size,0,none⟩=some (.int .i64 0):=h1.cell 0;have c1:w1.cell? ⟨w.heap.size,1,none⟩=some (.int .i64 0):=h1.cell 1;have z0:=h1.frozen 0;have z1:=h1.frozen 1;have H1:=Hi h1;have HB1:=Hi (HB0.out.trans (hb1.mono HB0.out.size));clear h1 hb1;go_wp2_with fail
 refine bodyPost_ret (resWr rfl rfl (Blk.put2 H1.out _ _) rfl) rfl ⟨rfl,?_⟩;exact (HB1.out.setCell (Nat.le_refl _) _).setCell (Nat.le_refl _) _
end
end Pa
namespace Sh
open Go Go.ChangeShapes Go.WideShapes Go.ChangeAt Go.RowKit Lx Args Pa
mutual
theorem TIz.below{q:Prop}{w w':World}(hb:Below w.heap.size w w'):∀ {z:Tz} {cs:List Value},TIc q w z cs->TIc q w' z cs
 | .mk k a s n ps l,cs,h=>by
  unfold TIc at h ⊢;obtain ⟨A,cA,B,cB,h1,h2,h3,h9,css,h10,h11,h12⟩:=h;exact ⟨A,cA,B,cB,h1,h2,h3,h9.below hb,css,h10.below hb,TsIz.below hb h11,h12⟩
theorem TsIz.below{q:Prop}{w w':World}(hb:Below w.heap.size w w'):∀ {l:List Tz} {css:List (List Value)},TsIc q w l css->TsIc q w' l css
 | [],_,h=>by unfold TsIc at h ⊢;exact h
 | x :: l,_,h=>by
  unfold TsIc at h ⊢;obtain ⟨c,r,h1,h2,h3⟩:=h;exact ⟨c,r,h1,TIz.below hb h2,TsIz.below hb h3⟩
end
mutual
theorem q30{N:Nat->Prop}{w:World}:∀ {x:Tr} {cs:List Value},TIn N w x cs->TIc True w (embz x) cs
 | .mk k a s n ps l,cs,h=>by
  unfold TIn at h;obtain ⟨A,cA,B,cB,rfl,h1,h2,h3,_,css,h4,_,h5⟩:=h;unfold embz TIc;have hl:(embs l).length=l.length:=q2s l;exact ⟨A,cA,B,cB,by rw [hl];rfl,by rw [hl];exact Nat.le_trans h1.few V2,Nat.le_trans h2.few V2,h3,css,h4,q67 h5,fun _=>⟨by rw [hl];exact ⟨h1.le,h1.cap⟩,h2.le,h2.cap⟩⟩
theorem q67{N:Nat->Prop}{w:World}:∀ {l:List Tr} {css:List (List Value)},TsIn N w l css->TsIc True w (embs l) css
 | [],_,h=>by unfold TsIn at h;unfold embs TsIc;exact h
 | x :: l,_,h=>by
  unfold TsIn at h;obtain ⟨c,r,rfl,h2,h3⟩:=h;unfold embs TsIc;exact ⟨c,r,rfl,q30 h2,q67 h3⟩
end
theorem q1X{q:Prop}{w:World}{z:Tz}{cs:List Value}(h:TIc q w z cs):∃ k a s n A la cA B lb cB,cs=nzC k a s n A la cA B lb cB:=by
 cases z;unfold TIc at h;obtain ⟨A,cA,B,cB,rfl,_⟩:=h;exact ⟨_,_,_,_,_,_,_,_,_,_,rfl⟩
theorem q68{q:Prop}{w:World}:∀ {l:List Tz} {css:List (List Value)},TsIc q w l css->∀ (i:Nat) (x:Tz),l[i]?=some x->∃ c,TIc q w x c/\∀ j,j < 6->css.flatten[i * 6+j]?=c[j]?
 | [],_,_,i,x,hx=>by simp at hx
 | y :: l,_,h,i,x,hx=>by
  unfold TsIc at h;obtain ⟨c,r,rfl,h2,h3⟩:=h;have h5:c.length = 6:=V1L;cases i with
  | zero=>
   have:y=x:=Vf;subst this;refine ⟨c,h2,fun j hj=>?_⟩;rw [List.flatten_cons,List.getElem?_append_left V0]
   congr 1
   omega
  | succ i=>
   obtain ⟨c',h6,h7⟩:=q68 h3 i x Vf;refine ⟨c',h6,fun j hj=>?_⟩;rw [List.flatten_cons,List.getElem?_append_right V0,<-h7 j hj]
   congr 1
   omega
theorem q7D{q:Prop}{w:World}{l:List Tz}{css:List (List Value)}{A:Option Addr}(hL:Lies w A css.flatten)(hT:TsIc q w l css){i:Nat}{y:Tz}(h:l[i]?=some y) :
  ∃ b o k a s n A' la cA B lb cB,A=some ⟨b,o,none⟩/\TIc q w y (nzC k a s n A' la cA B lb cB)/\b < w.heap.size/\w.cell? ⟨b,o+i * 6,none⟩=some (.int .i64 k)/\w.cell? ⟨b,o+i * 6+1,none⟩=some (.string ⟨s.toArray⟩) /\
   w.cell? ⟨b,o+i * 6+2,none⟩=some (.int .u32 (n:Int))/\w.cell? ⟨b,o+i * 6+3,none⟩=some (.int .i64 a)/\w.cell? ⟨b,o+i * 6+4,none⟩=some (.slice A' la cA)/\w.cell? ⟨b,o+i * 6+5,none⟩=some (.slice B lb cB):=by
 obtain ⟨c,h1,h2⟩:=q68 hT i y h;obtain ⟨k,a,s,n,A',la,cA,B,lb,cB,rfl⟩:=q1X h1;have g0:=h2 0 V0;have g1:=h2 1 V0;have g2:=h2 2 V0;have g3:=h2 3 V0;have g4:=h2 4 V0;have g5:=h2 5 V0;obtain ⟨b,o,rfl,hb,hc⟩:=hL.at_ (j:=i * 6+0) (g0.trans rfl);refine ⟨b,o,k,a,s,n,A',la,cA,B,lb,cB,rfl,h1,hb,hc _ _ (g0.trans rfl),?_,?_,?_,?_,?_⟩
 ·rw [Nat.add_assoc];exact hc _ _ (g1.trans rfl)
 ·rw [Nat.add_assoc];exact hc _ _ (g2.trans rfl)
 ·rw [Nat.add_assoc];exact hc _ _ (g3.trans rfl)
 ·rw [Nat.add_assoc];exact hc _ _ (g4.trans rfl)
 ·rw [Nat.add_assoc];exact hc _ _ (g5.trans rfl)
theorem q18{q:Prop}{w:World}{k1 a1:Int}{n1:Nat}{s1:Bs}{ps:List Bs}{l:List Tz}{k a s n A la cA B lb cB}(h:TIc q w (.mk k1 a1 s1 n1 ps l) (nzC k a s n A la cA B lb cB)) :
  k=k1/\s=s1/\n=n1/\a=a1/\la=l.length/\lb=ps.length/\l.length<=maxLen/\ps.length<=maxLen/\Lies w B (ps.map strV)/\∃ css,Lies w A css.flatten/\TsIc q w l css:=by
 unfold TIc at h;obtain ⟨A1,cA1,B1,cB1,h1,h2,h3,h9,css,h10,h11,_⟩:=h;unfold nzC at h1;simp only [List.cons.injEq,Value.int.injEq,Value.slice.injEq,Value.string.injEq,true_and,and_true] at h1;obtain ⟨e1,e2,e3,e4,⟨rfl,rfl,rfl⟩,rfl,rfl,rfl⟩:=h1;refine ⟨e1,?_,Int.ofNat.inj e3,e4,rfl,rfl,h2,h3,h9,css,h10,h11⟩;have:=congrArg (fun b:ByteArray=>b.data.toList) e2;simpa using this
theorem q4E{w:World}{k1 a1:Int}{n1:Nat}{s1:Bs}{ps:List Bs}{l:List Tz}{k a s n A la cA B lb cB}(h:TIc True w (.mk k1 a1 s1 n1 ps l) (nzC k a s n A la cA B lb cB)):l.length<=cA/\cA<=maxLen:=by
 unfold TIc at h;obtain ⟨A1,cA1,B1,cB1,h1,_,_,_,css,_,_,h12⟩:=h;unfold nzC at h1;simp only [List.cons.injEq,Value.slice.injEq,true_and,and_true] at h1;obtain ⟨_,_,_,_,⟨_,_,rfl⟩,_⟩:=h1;exact (h12 trivial).1
theorem q7E{w:World}{k1 a1:Int}{n1:Nat}{s1:Bs}{ps:List Bs}{l:List Tz}{k a s n A la cA B lb cB}(h:TIc True w (.mk k1 a1 s1 n1 ps l) (nzC k a s n A la cA B lb cB)):ps.length<=cB/\cB<=maxLen:=by
 unfold TIc at h;obtain ⟨A1,cA1,B1,cB1,h1,_,_,_,css,_,_,h12⟩:=h;unfold nzC at h1;simp only [List.cons.injEq,Value.slice.injEq,true_and,and_true] at h1;obtain ⟨_,_,_,_,_,_,_,rfl⟩:=h1;exact (h12 trivial).2
mutual
theorem q7F{q:Prop}{w:World}:∀ {z:Tz} {cs:List Value},TIc q w z cs->TIz w z cs
 | .mk k a s n ps l,cs,h=>by
  unfold TIc at h ⊢;obtain ⟨A,cA,B,cB,h1,h2,h3,h9,css,h10,h11,_⟩:=h;exact ⟨A,cA,B,cB,h1,h2,h3,h9,css,h10,q0J h11,fun h=>h.elim⟩
theorem q0J{q:Prop}{w:World}:∀ {l:List Tz} {css:List (List Value)},TsIc q w l css->TsIz w l css
 | [],_,h=>by unfold TsIc at h ⊢;exact h
 | x :: l,_,h=>by
  unfold TsIc at h ⊢;obtain ⟨c,r,h1,h2,h3⟩:=h;exact ⟨c,r,h1,q7F h2,q0J h3⟩
end
theorem q0n{x:Tz}{k a:Int}{n:Nat}{s:Bs}{ps:List Bs}{l:List Tz}{i:Nat}(h:l[i]?=some x):SizeOf.sizeOf x < SizeOf.sizeOf (Tz.mk k a s n ps l):=by
 have h1:=List.sizeOf_lt_of_mem (List.mem_of_getElem? h);simp only [Tz.mk.sizeOf_spec];omega
end Sh
end Go.Proofs.YtcgibpdjfgjldaaGreatDoor
