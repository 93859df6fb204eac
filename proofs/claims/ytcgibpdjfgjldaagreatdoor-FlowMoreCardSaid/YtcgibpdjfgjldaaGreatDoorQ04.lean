/- DERIVED. ShMade, NmRef, FlOp, NmMap, LxC. By an AI agent. -/
import Derived.Test.YtcgibpdjfgjldaaGreatDoorQ03
import Derived.Test.YtcgibpdjfgjldaaGreatDoorQ02
import Derived.Maps.OwnSet
import Derived.Maps.Views
import Derived.StringKeys
import Derived.ProofKit
import Derived.Test.YtcgibpdjfgjldaaGreatDoorQ01
import Derived.Test.YtcgibpdjfgjldaaGreatDoorRows
import Derived.WalkKit
import Derived.Lib.Hide
import Derived.BigQuiet
set_option maxHeartbeats 1000000
set_option linter.unusedVariables false
set_option linter.unusedSimpArgs false
namespace Go.Proofs.YtcgibpdjfgjldaaGreatDoor.Pa
open Lx
mutual
def gE(Q:Bs→Prop):Tr→Prop
 | .mk k _ s n ps l=>ps=[]∧gEs Q l∧n < 4294967296∧((k = 0∧s=[]∧l=[])∨(n = 0∧((k = 1∧Q s∧l=[])∨(k = 2∧(s=[126]∨s=[45])∧l.length = 1) ∨
   (k = 3∧(s=[124]∨s=[94]∨s=[38]∨s=[43]∨s=[45])∧l.length = 2)∨(k = 4∧(s=[60,60]∨s=[62,62]∨s=[60,60,60])∧l.length = 2)∨(k = 5∧Q s∧l≠[]))))
def gEs(Q:Bs→Prop):List Tr→Prop
 | []=>True
 | x :: l=>gE Q x∧gEs Q l
end
mutual
def gS(Q:Bs→Prop):Tr→Prop
 | .mk k _ s n ps l=>n = 0∧ps=[]∧Q s∧((k = 10∧l.length = 1∧gA Q 1 l)∨(k = 11∧2≤l.length∧gA Q 2 l))
def gA(Q:Bs→Prop):Nat→List Tr→Prop
 | _,[]=>True
 | 0,x :: l=>gS Q x∧gA Q 0 l
 | i+1,x :: l=>gE Q x∧gA Q i l
end
def gT(Q:Bs→Prop):Tr→Prop
 | .mk k a s n ps l=>gS Q (.mk k a s n ps l)∨(n = 0∧(((k = 6∨k = 7)∧s=[]∧l=[]∧ps≠[]∧(∀ p∈ps,Q p))∨((k = 8∨k = 9)∧ps=[]∧Q s∧∃ x,l=[x]∧gE Q x) ∨
   (k = 12∧ps≠[]∧(∀ p∈ps,Q p)∧Q s∧∃ x,l=[x]∧gE Q x)))
theorem gE_put{Q:Bs→Prop}{x:Tr}(h:gE Q x)(a:Nat):gE Q (x.put a):=by
 cases x;unfold Tr.put gE;unfold gE at h;exact h
def TQ(Q:Bs→Prop)(l:List Tk):Prop:=∀ t∈l,t.k = 1→Q t.s
theorem TQ.tail{Q:Bs→Prop}{t:Tk}{l:List Tk}(h:TQ Q (t :: l)):TQ Q l:=fun u hu=>h u (List.mem_cons_of_mem _ hu)
theorem TQ.hd{Q:Bs→Prop}{t:Tk}{l:List Tk}(h:TQ Q (t :: l))(hk:t.k = 1):Q t.s:=h t (List.mem_cons_self ..) hk
def Gr(Q:Bs→Prop)(P:List Tr→Prop):OO→Prop
 | some (.ok xs r)=>P xs∧TQ Q r
 | _=>True
section
variable {Q : Bs → Prop} {P P' : List Tr → Prop}
theorem gr_wrong(l:List Tk)(e:Nat):Gr Q P (wrong l e):=trivial
theorem gr_if{c:Prop}[Decidable c]{o p:OO}(h1:c→Gr Q P o)(h2:¬ c→Gr Q P p):Gr Q P (if c then o else p):=by
 by_cases h:c
 ·rw [if_pos h];exact h1 h
 ·rw [if_neg h];exact h2 h
theorem gr_bnd{o:OO}{f:List Tr→List Tk→OO}(h:Gr Q P o)(hf:∀ xs r,P xs→TQ Q r→Gr Q P' (f xs r)):Gr Q P' (bnd o f):=by
 rcases o with _ | ⟨xs,r⟩ | ⟨a,e⟩
 ·trivial
 ·exact hf xs r h.1 h.2
 ·trivial
theorem gr_ok{xs:List Tr}{r:List Tk}(h:P xs)(hr:TQ Q r):Gr Q P (some (.ok xs r)):=⟨h,hr⟩
theorem gr_mono{o:OO}(h:Gr Q P o)(hP:∀ xs,P xs→P' xs):Gr Q P' o:=by
 rcases o with _ | ⟨xs,r⟩ | ⟨a,e⟩
 ·trivial
 ·exact ⟨hP xs h.1,h.2⟩
 ·trivial
theorem gr_must{b:Bs}{l:List Tk}{f:List Tk→OO}(h:TQ Q l)(hf:∀ r,TQ Q r→Gr Q P (f r)):Gr Q P (must b l f):=by
 cases l with
 | nil=>trivial
 | cons t r=>exact gr_if (fun _=>hf r h.tail) fun _=>gr_wrong _ _
theorem gr_name{l:List Tk}{f:Bs→List Tk→OO}(h:TQ Q l)(hf:∀ s r,Q s→TQ Q r→Gr Q P (f s r)):Gr Q P (nameK l f):=by
 cases l with
 | nil=>trivial
 | cons t r=>exact gr_if (fun hk=>hf t.s r (h.hd hk) h.tail) fun _=>gr_wrong _ _
theorem gr_names{f:List Bs→List Tk→OO}(hf:∀ ps r,ps≠[]→(∀ p∈ps,Q p)→TQ Q r→Gr Q P (f ps r)):∀ (ps:List Bs) (l:List Tk),(∀ p∈ps,Q p)→TQ Q l→Gr Q P (namesK ps l f)
 | _,[],_,_=>trivial
 | ps,[t],hp,h=>by
  unfold namesK;exact gr_if (fun hk=>hf _ _ (by simp) (fun p hm=>by
   rcases List.mem_append.1 hm with hm | hm
   ·exact hp p hm
   ·rw [List.mem_singleton.1 hm];exact h.hd hk) h.tail) fun _=>gr_wrong _ _
 | ps,t :: u :: r,hp,h=>by
  unfold namesK;refine gr_if (fun hk=>?_) fun _=>gr_wrong _ _
  have hq:∀ p∈ps ++ [t.s],Q p:=fun p hm=>by
   rcases List.mem_append.1 hm with hm | hm
   ·exact hp p hm
   ·rw [List.mem_singleton.1 hm];exact h.hd hk
  exact gr_if (fun _=>gr_names hf _ r hq h.tail.tail) fun _=>hf _ _ (by simp) hq h.tail
end
def preM(Q:Bs→Prop):NT→Prop
 | .more _ x=>gE Q x
 | _=>True
def gN(Q:Bs→Prop):NT→List Tr→Prop
 | .lev _,xs=>∃ x,xs=[x]∧gE Q x
 | .more _ _,xs=>∃ x,xs=[x]∧gE Q x
 | .args l,xs=>∃ ys,xs=l ++ ys∧gEs Q ys
 | .fin k a s ps,xs=>∃ x,xs=[.mk k a s 0 ps [x]]∧gE Q x
 | .inner,xs=>∃ x,xs=[x]∧gS Q x
 | .inners l,xs=>∃ ys,xs=l ++ ys∧gA Q 0 ys
 | .stmt,xs=>∃ x,xs=[x]∧gT Q x
 | .stmts l,xs=>∃ ys,xs=l ++ ys∧∀ y∈ys,gT Q y
theorem on_bin{Q:Bs→Prop}{n:Nat}{t:Tk}{x y:Tr}(h:onS n t=true)(hx:gE Q x)(hy:gE Q y)(a:Nat):gE Q (.mk (if n = 3 then 4 else 3) a t.s 0 [] [x,y]):=by
 unfold onS at h;simp only [Bool.and_eq_true,List.contains_iff_mem] at h;have hs:=h.2;unfold gE;refine ⟨rfl,⟨hx,hy,trivial⟩,by decide,.inr ⟨rfl,?_⟩⟩;rcases n with _ | _ | _ | _ | n
 ·simp only [sOf,List.mem_singleton] at hs;exact .inr (.inr (.inl ⟨rfl,.inl hs,rfl⟩))
 ·simp only [sOf,List.mem_singleton] at hs;exact .inr (.inr (.inl ⟨rfl,.inr (.inl hs),rfl⟩))
 ·simp only [sOf,List.mem_singleton] at hs;exact .inr (.inr (.inl ⟨rfl,.inr (.inr (.inl hs)),rfl⟩))
 ·simp only [sOf,List.mem_cons,List.not_mem_nil,or_false] at hs;exact .inr (.inr (.inr (.inl ⟨rfl,hs,rfl⟩)))
 ·simp only [sOf,List.mem_cons,List.not_mem_nil,or_false] at hs;refine .inr (.inr (.inl ⟨if_neg (by omega),?_,rfl⟩));rcases hs with hs | hs
  ·exact .inr (.inr (.inr (.inl hs)))
  ·exact .inr (.inr (.inr (.inr hs)))
theorem pF_made{num:Bs→Nat×Nat}{Q:Bs→Prop}(hn:∀ b,(num b).1 < 4294967296):∀ (f:Nat) (nt:NT) (d:Nat) (l:List Tk),preM Q nt→TQ Q l→Gr Q (gN Q nt) (pF num f nt d l):=by
 intro f
 induction f with
 | zero=>intros;trivial
 | succ f ih=>
  intro nt d l hp h;cases nt with
  | lev n=>
   unfold pF;refine gr_if (fun _=>gr_bnd (ih (.lev (n+1)) _ _ trivial h) fun xs r hx hr=>?_) fun _=>?_
   ·obtain ⟨x,rfl,hx⟩:=hx;exact ih (.more n x) _ _ hx hr
   cases l with
   | nil=>trivial
   | cons t r=>
   refine gr_if (fun _=>gr_wrong _ _) fun _=>gr_if (fun hs=>?_) fun _=>gr_if (fun hk=>?_) fun _=>gr_if (fun hs=>?_) fun _=>gr_name h fun s r hs hr=>?_
   ·refine gr_bnd (ih (.lev 5) _ _ trivial h.tail) fun xs r' hx hr=>⟨?_,hr⟩
    obtain ⟨x,rfl,hx⟩:=hx;refine ⟨_,rfl,?_⟩;unfold gE;refine ⟨rfl,⟨hx,trivial⟩,by decide,.inr ⟨rfl,.inr (.inl ⟨rfl,?_,rfl⟩)⟩⟩;unfold isS at hs;simp only [Bool.or_eq_true,Bool.and_eq_true,beq_iff_eq] at hs;rcases hs with hs | hs
    ·exact .inl hs.2
    ·exact .inr hs.2
   ·refine gr_if (fun _=>⟨⟨_,rfl,?_⟩,h.tail⟩) fun _=>gr_wrong _ _
    unfold gE;exact ⟨rfl,trivial,hn _,.inl ⟨rfl,rfl,rfl⟩⟩
   ·refine gr_bnd (ih (.lev 0) _ _ trivial h.tail) fun xs r' hx hr=>gr_must hr fun r2 hr2=>⟨?_,hr2⟩
    obtain ⟨x,rfl,hx⟩:=hx;exact ⟨_,rfl,gE_put hx _⟩
   ·have leaf:gE Q (.mk 1 t.at_ s 0 [] []):=by
     unfold gE;exact ⟨rfl,trivial,by decide,.inr ⟨rfl,.inl ⟨rfl,hs,rfl⟩⟩⟩
    cases r with
    | nil=>exact ⟨⟨_,rfl,leaf⟩,hr⟩
    | cons u r'=>
     refine gr_if (fun hu=>?_) fun _=>⟨⟨_,rfl,leaf⟩,hr⟩
     refine gr_bnd (ih (.lev 0) _ _ trivial hr.tail) fun xs r2 hx hr2=>gr_bnd (ih (.args xs) _ _ trivial hr2) fun ys r3 hy hr3=>gr_must hr3 fun r4 hr4=>⟨?_,hr4⟩
     obtain ⟨x,rfl,hx⟩:=hx;obtain ⟨zs,rfl,hz⟩:=hy;refine ⟨_,rfl,?_⟩;unfold gE;exact ⟨rfl,⟨hx,hz⟩,by decide,.inr ⟨rfl,.inr (.inr (.inr (.inr ⟨rfl,hs,by simp⟩)))⟩⟩
  | more n x=>
   unfold pF;cases l with
   | nil=>exact ⟨⟨_,rfl,hp⟩,h⟩
   | cons t r=>
    refine gr_if (fun hs=>gr_bnd (ih (.lev (n+1)) _ _ trivial h.tail) fun ys r' hy hr'=>?_) fun _=>⟨⟨_,rfl,hp⟩,h⟩
    obtain ⟨y,rfl,hy⟩:=hy;exact ih (.more n (.mk (if n = 3 then 4 else 3) x.place t.s 0 [] [x,y])) d r' (on_bin hs hp hy x.place) hr'
  | args xs=>
   unfold pF;cases l with
   | nil=>exact ⟨⟨[],by simp,trivial⟩,h⟩
   | cons t r=>
    refine gr_if (fun hs=>gr_bnd (ih (.lev 0) _ _ trivial h.tail) fun ys r' hy hr'=>?_) fun _=>⟨⟨[],by simp,trivial⟩,h⟩
    obtain ⟨y,rfl,hy⟩:=hy;refine gr_mono (ih (.args (xs ++ [y])) d r' trivial hr') fun zs hz=>?_
    obtain ⟨us,rfl,hu⟩:=hz;exact ⟨y :: us,by simp,hy,hu⟩
  | fin k a s ps=>
   unfold pF;refine gr_bnd (ih (.lev 0) _ _ trivial h) fun xs r hx hr=>gr_must hr fun r' hr'=>⟨?_,hr'⟩
   obtain ⟨x,rfl,hx⟩:=hx;exact ⟨x,rfl,hx⟩
  | inner=>
   unfold pF;cases l with
   | nil=>trivial
   | cons t r=>
    refine gr_if (fun _=>gr_wrong _ _) fun _=>gr_if (fun hs=>?_) fun _=>gr_name h fun s r hs hr=>gr_must hr fun r hr=>?_
    ·refine gr_name h.tail fun s r hs hr=>gr_must hr fun r hr=>gr_bnd (ih (.lev 0) _ _ trivial hr) fun xs r hx hr=>gr_must hr fun r hr=>gr_bnd (ih (.lev 0) _ _ trivial hr) fun ys r hy hr=>gr_must hr fun r hr=>gr_bnd (ih (.inners (xs ++ ys)) _ _ trivial hr) fun zs r hz hr=>⟨?_,hr⟩
     obtain ⟨x,rfl,hx⟩:=hx;obtain ⟨y,rfl,hy⟩:=hy;obtain ⟨us,rfl,hu⟩:=hz;refine ⟨_,rfl,?_⟩;unfold gS;refine ⟨rfl,rfl,hs,.inr ⟨rfl,by simp,?_⟩⟩;show gA Q 2 (x :: y :: us);unfold gA;refine ⟨hx,?_⟩;unfold gA;exact ⟨hy,hu⟩
    ·refine gr_mono (ih (.fin 10 t.at_ s []) d r trivial hr) fun zs hz=>?_
     obtain ⟨x,rfl,hx⟩:=hz;refine ⟨_,rfl,?_⟩;unfold gS;refine ⟨rfl,rfl,hs,.inl ⟨rfl,rfl,?_⟩⟩;unfold gA;exact ⟨hx,by unfold gA;trivial⟩
  | inners zs=>
   unfold pF;cases l with
   | nil=>trivial
   | cons t r=>
    refine gr_if (fun _=>⟨⟨[],by simp,by unfold gA;trivial⟩,h.tail⟩) fun _=>gr_bnd (ih .inner _ _ trivial h) fun xs r' hx hr'=>?_
    obtain ⟨x,rfl,hx⟩:=hx;refine gr_mono (ih (.inners (zs ++ [x])) d r' trivial hr') fun ys hz=>?_
    obtain ⟨us,rfl,hu⟩:=hz;exact ⟨x :: us,by simp,by unfold gA;exact ⟨hx,hu⟩⟩
  | stmt=>
   unfold pF;cases l with
   | nil=>trivial
   | cons t r=>
    have fin:∀ (k:Nat) (s:Bs) (ps:List Bs) (r:List Tk),TQ Q r→(∀ x,gE Q x→gT Q (.mk k t.at_ s 0 ps [x]))→Gr Q (gN Q .stmt) (pF num f (.fin k t.at_ s ps) d r):=fun k s ps r hr hk=>by
     refine gr_mono (ih (.fin k t.at_ s ps) d r trivial hr) fun zs hz=>?_
     obtain ⟨x,rfl,hx⟩:=hz;exact ⟨_,rfl,hk x hx⟩
    refine gr_if (fun _=>?_) fun _=>gr_if (fun _=>?_) fun _=>gr_if (fun _=>?_) fun _=>gr_if (fun _=>?_) fun _=>gr_if (fun _=>?_) fun _=>?_
    ·exact gr_names (fun ps r h0 hq hr=>gr_must hr fun r hr=>gr_ok ⟨_,rfl,by unfold gT;exact .inr ⟨rfl,.inl ⟨.inl rfl,rfl,rfl,h0,hq⟩⟩⟩ hr) [] r (by simp) h.tail
    ·exact gr_names (fun ps r h0 hq hr=>gr_must hr fun r hr=>gr_ok ⟨_,rfl,by unfold gT;exact .inr ⟨rfl,.inl ⟨.inr rfl,rfl,rfl,h0,hq⟩⟩⟩ hr) [] r (by simp) h.tail
    ·exact gr_name h.tail fun s r hs hr=>gr_must hr fun r hr=>fin 8 s [] r hr fun x hx=>by unfold gT;exact .inr ⟨rfl,.inr (.inl ⟨.inl rfl,rfl,hs,x,rfl,hx⟩)⟩
    ·exact gr_name h.tail fun s r hs hr=>gr_must hr fun r hr=>fin 9 s [] r hr fun x hx=>by unfold gT;exact .inr ⟨rfl,.inr (.inl ⟨.inr rfl,rfl,hs,x,rfl,hx⟩)⟩
    ·exact gr_name h.tail fun s r hs hr=>gr_must hr fun r hr=>gr_names (fun ps r h0 hq hr=>gr_must hr fun r hr=>gr_must hr fun r hr=>fin 12 s ps r hr fun x hx=>by unfold gT;exact .inr ⟨rfl,.inr (.inr ⟨rfl,h0,hq,hs,x,rfl,hx⟩)⟩) [] r (by simp) hr
    ·refine gr_mono (ih .inner 0 (t :: r) trivial h) fun zs hz=>?_
     obtain ⟨x,rfl,hx⟩:=hz;refine ⟨x,rfl,?_⟩;cases x;unfold gT;exact .inl hx
  | stmts xs=>
   unfold pF;cases l with
   | nil=>trivial
   | cons t r=>
    refine gr_if (fun _=>⟨⟨[],by simp,by simp⟩,h⟩) fun _=>gr_bnd (ih .stmt _ _ trivial h) fun ys r' hy hr'=>?_
    obtain ⟨y,rfl,hy⟩:=hy;refine gr_mono (ih (.stmts (xs ++ [y])) d r' trivial hr') fun zs hz=>?_
    obtain ⟨us,rfl,hu⟩:=hz;refine ⟨y :: us,by simp,fun z hz=>?_⟩;rcases List.mem_cons.1 hz with rfl | hz
    ·exact hy
    ·exact hu z hz
end Go.Proofs.YtcgibpdjfgjldaaGreatDoor.Pa
namespace Go.Proofs.YtcgibpdjfgjldaaGreatDoor.Nm
open Lx Pa Sh
structure RS where
 inn:List Bs
 var:List Bs
 loo:List Bs
 fn:List Bs
 many:List Nat
 bad:Option Int
 se:List Bs
 pu:List Bs
 ou:List (Bs×Bool)
def manyR:List Bs→List Nat→Bs→Int
 | f :: fs,m :: ms,s=>if f==s then (m:Int) else manyR fs ms s
 | _,_,_=>-1
def wordR(d:RS)(s:Bs):Bool:=d.inn.contains s || d.var.contains s || d.loo.contains s
def callR(fn:List Bs)(many:List Nat)(s:Bs)(p:Nat):Bool:=decide (manyR fn many s=(p:Int)) && fn.contains s
def nmR(d:RS)(s:Bs):Bool:=d.inn.contains s || d.var.contains s || d.loo.contains s || d.fn.contains s
/-! Both alike. -/
structure Rl(c:St)(d:RS):Prop where
 good:d.bad=none
 inn:∀ s,s∈d.inn↔∃ p,c.kn s=some (0,p)
 fn:∀ s,s∈d.fn↔∃ p,c.kn s=some (1,p)
 var:∀ s,s∈d.var↔∃ p,c.kn s=some (2,p)
 loo:∀ s,s∈d.loo↔∃ p,c.kn s=some (3,p)
 many:∀ s p,c.kn s=some (1,p)→manyR d.fn d.many s=(p:Int)
 len:d.many.length=d.fn.length
 sorts:Sorts c.kn
 se:d.se=c.se
 pu:d.pu=c.pu
 ou:d.ou=c.ou
theorem bool_eq_of_iff{a b:Bool}(h:a=true↔b=true):a=b:=by cases a <;> cases b <;> simp_all
theorem Rl.named{c:St}{d:RS}(h:Rl c d)(s:Bs):nmR d s=namedB c.kn s:=by
 refine bool_eq_of_iff ?_;unfold nmR namedB;simp only [Bool.or_eq_true,List.contains_iff_mem,h.inn,h.var,h.loo,h.fn,Option.isSome_iff_exists];constructor
 ·rintro (((⟨p,h⟩ | ⟨p,h⟩) | ⟨p,h⟩) | ⟨p,h⟩) <;> exact ⟨_,h⟩
 ·rintro ⟨⟨m,p⟩,hk⟩;have hm:=h.sorts s _ hk;simp only at hm;rcases m with _ | _ | _ | _ | m
  ·exact .inl (.inl (.inl ⟨p,hk⟩))
  ·exact .inr ⟨p,hk⟩
  ·exact .inl (.inl (.inr ⟨p,hk⟩))
  ·exact .inl (.inr ⟨p,hk⟩)
  ·omega
theorem Rl.word{c:St}{d:RS}(h:Rl c d)(s:Bs):wordR d s=wordB c.kn s:=by
 refine bool_eq_of_iff ?_;unfold wordR wordB;simp only [Bool.or_eq_true,List.contains_iff_mem,h.inn,h.var,h.loo];cases hk:c.kn s with
 | none=>simp
 | some m=>
  obtain ⟨m,p⟩:=m;have hm:=h.sorts s _ hk;simp only at hm;rcases m with _ | _ | _ | _ | m
  ·simp
  ·simp
  ·simp
  ·simp
  ·omega
theorem Rl.func{c:St}{d:RS}(h:Rl c d)(s:Bs):d.fn.contains s=isB c.kn s [1]:=by
 refine bool_eq_of_iff ?_;unfold isB;rw [List.contains_iff_mem,h.fn];cases hk:c.kn s with
 | none=>simp
 | some m=>obtain ⟨m,p⟩:=m;simp
theorem Rl.call{c:St}{d:RS}(h:Rl c d)(s:Bs)(p:Nat):callR d.fn d.many s p=callB c.kn s p:=by
 unfold callR callB;cases hk:c.kn s with
 | none=>
  have:d.fn.contains s=false:=by rw [h.func];unfold isB;rw [hk]
  rw [this];simp
 | some m=>
  obtain ⟨m,q⟩:=m;by_cases hm:m = 1
  ·subst hm;have h1:d.fn.contains s=true:=by rw [h.func];unfold isB;rw [hk];simp
   rw [h1,h.many s q hk];refine bool_eq_of_iff ?_;simp only [Bool.and_true,decide_eq_true_eq,decide_true,Bool.true_and];omega
  ·have h1:d.fn.contains s=false:=by rw [h.func];unfold isB;rw [hk];simp;omega
   rw [h1];simp [hm]
def Both(r:Rs)(d:RS):Prop:=match r with | .bad a=>d.bad=some a | .ok c=>Rl c d
mutual
def okP:Tz→Prop
 | .mk k _ _ _ _ l=>(k = 8∨k = 9∨k = 10∨k = 12→l.length≤1)∧(k = 11→okPs 2 l)
def okPs:Nat→List Tz→Prop
 | _,[]=>True
 | 0,x :: l=>okP x∧okPs 0 l
 | i+1,_ :: l=>okPs i l
end
mutual
theorem okP_gS{Q:Bs→Prop}:∀ {x:Tr},gS Q x→okP (embz x)
 | .mk k a s n ps l,h=>by
  unfold gS at h;unfold embz okP;rw [embs_len];obtain ⟨_,_,_,⟨h1,h2,_⟩ | ⟨h1,h2,h3⟩⟩:=h
  ·subst h1;exact ⟨fun _=>by omega,fun h=>by simp at h⟩
  ·subst h1;exact ⟨fun h=>by simp at h,fun _=>okP_gA h3⟩
theorem okP_gA{Q:Bs→Prop}:∀ {i:Nat} {l:List Tr},gA Q i l→okPs i (embs l)
 | _,[],_=>by unfold embs okPs;trivial
 | 0,x :: l,h=>by unfold gA at h;unfold embs okPs;exact ⟨okP_gS h.1,okP_gA h.2⟩
 | i+1,x :: l,h=>by unfold gA at h;unfold embs okPs;exact okP_gA h.2
end
theorem okP_gT{Q:Bs→Prop}{x:Tr}(h:gT Q x):okP (embz x):=by
 obtain ⟨k,a,s,n,ps,l⟩:=x;unfold gT at h;rcases h with h | ⟨_,⟨h1,_,h2,_⟩ | ⟨h1,_,_,y,rfl,_⟩ | ⟨h1,_,_,_,y,rfl,_⟩⟩
 ·exact okP_gS h
 ·unfold embz okP;exact ⟨fun _=>by rw [h2];simp [embs],fun h=>by omega⟩
 ·unfold embz okP;exact ⟨fun _=>by simp [embs],fun h=>by omega⟩
 ·unfold embz okP;exact ⟨fun _=>by simp [embs],fun h=>by omega⟩
theorem okPs_gT{Q:Bs→Prop}:∀ {l:List Tr},(∀ y∈l,gT Q y)→okPs 0 (embs l)
 | [],_=>by unfold embs okPs;trivial
 | x :: l,h=>by unfold embs okPs;exact ⟨okP_gT (h x (by simp)),okPs_gT fun y hy=>h y (by simp [hy])⟩
end Go.Proofs.YtcgibpdjfgjldaaGreatDoor.Nm
namespace Go.Proofs.YtcgibpdjfgjldaaGreatDoor.Fl
open Lx Pa Sh Go.Proofs.YtcgibpdjfgjldaaGreatDoor.Nm
def opT:Tz→Tz
 | .mk k a s n ps l=>.mk (if k = 6 then 7 else k) a s n ps l
def opz:Tz→Tz
 | .mk k _ _ _ _ l=>.mk k 0 [] 0 [] (l.map opT)
theorem op_T:∀ (z:Tz),OpT (opT z) z
 | .mk k a s n ps l=>by
  show OpT (.mk (if k = 6 then 7 else k) a s n ps l) _;by_cases h:k = 6
  ·subst h;rw [if_pos rfl];exact .input a s n ps l
  ·rw [if_neg h];exact .same _
theorem op_S:∀ (l:List Tz),OpS (l.map opT) l
 | []=>.nil
 | x :: l=>by rw [List.map_cons];exact .cons (op_T x) (op_S l)
theorem op_z:∀ (z:Tz),OpS (lz (opz z)) (lz z)
 | .mk k a s n ps l=>op_S l
mutual
theorem noS_gS{Q:Bs→Prop}:∀ {x:Tr},gS Q x→noS (embz x)
 | .mk k a s n ps l,h=>by
  unfold gS at h;unfold embz noS;obtain ⟨_,_,_,⟨h1,_,_⟩ | ⟨h1,_,h3⟩⟩:=h
  ·subst h1;exact ⟨by decide,fun h=>absurd h (by decide)⟩
  ·subst h1;exact ⟨by decide,fun _=>noS_gA h3⟩
theorem noS_gA{Q:Bs→Prop}:∀ {i:Nat} {l:List Tr},gA Q i l→noSs (embs l)
 | _,[],_=>by unfold embs noSs;trivial
 | 0,x :: l,h=>by unfold gA at h;unfold embs noSs;exact ⟨noS_gS h.1,noS_gA h.2⟩
 | i+1,x :: l,h=>by
  unfold gA at h;unfold embs noSs;refine ⟨?_,noS_gA h.2⟩;obtain ⟨k,a,s,n,ps,l'⟩:=x;have h1:=h.1;unfold gE at h1;unfold embz noS;have hk:k≤5:=by
   rcases h1.2.2.2 with ⟨h,_⟩ | ⟨_,⟨h,_⟩ | ⟨h,_⟩ | ⟨h,_⟩ | ⟨h,_⟩ | ⟨h,_⟩⟩ <;> omega
  exact ⟨by omega,fun h=>by omega⟩
end
theorem noS_op{Q:Bs→Prop}{x:Tr}(h:gT Q x):noS (opT (embz x)):=by
 obtain ⟨k,a,s,n,ps,l⟩:=x;unfold gT at h;by_cases h6:k = 6
 ·subst h6;unfold embz;show noS (.mk 7 a s n ps (embs l));unfold noS;exact ⟨by decide,fun h=>absurd h (by decide)⟩
 ·rcases h with h | ⟨_,h⟩
  ·have:=noS_gS h;unfold embz at this ⊢;show noS (.mk (if (k:Int) = 6 then 7 else (k:Int)) a s n ps (embs l));rw [if_neg (by omega)];exact this
  ·unfold embz;show noS (.mk (if (k:Int) = 6 then 7 else (k:Int)) a s n ps (embs l));rw [if_neg (by omega)];unfold noS;exact ⟨by omega,fun h'=>by rcases h with ⟨h,_⟩ | ⟨h,_⟩ | ⟨h,_⟩ <;> omega⟩
theorem noSs_op{Q:Bs→Prop}:∀ {l:List Tr},(∀ y∈l,gT Q y)→noSs ((embs l).map opT)
 | [],_=>by unfold embs;rw [List.map_nil];unfold noSs;trivial
 | x :: l,h=>by unfold embs;rw [List.map_cons];unfold noSs;exact ⟨noS_op (h x (by simp)),noSs_op fun y hy=>h y (by simp [hy])⟩
/-! Names of both. -/
def SmC(c d:St):Prop:=c.kn=d.kn∧c.en=d.en∧c.ou=d.ou
def SmS:Rs→Rs→Prop
 | .bad a,.bad b=>a=b
 | .ok c,.ok d=>SmC c d
 | _,_=>False
theorem SmS.bnd{r1 r2:Rs}{f1 f2:St→Rs}(h:SmS r1 r2)(hf:∀ c d,SmC c d→SmS (f1 c) (f2 d)):SmS (bndR r1 f1) (bndR r2 f2):=by
 cases r1 <;> cases r2
 ·exact hf _ _ h
 ·exact h.elim
 ·exact h.elim
 ·exact h
theorem in_sm(a:Int):∀ (ps:List Bs) (c d:St),SmC c d→SmS (inB a ps c) (inB a ps d)
 | [],c,d,h=>h
 | s :: l,c,d,h=>by
  unfold inB;rw [h.1];by_cases hb:namedB d.kn s=true
  ·rw [if_pos hb,if_pos hb];exact rfl
  ·rw [if_neg hb,if_neg hb];exact in_sm a l _ _ ⟨rfl,by show c.en ++ [s]=d.en ++ [s];rw [h.2.1],h.2.2⟩
theorem exR_sm{o:Option Int}{r1 r2:Rs}(h:SmS r1 r2):SmS (exR o r1) (exR o r2):=by
 cases o with
 | none=>exact h
 | some a=>exact rfl
mutual
theorem st_sm:∀ (z:Tz) (c d:St),SmC c d→SmS (stB z c) (stB z d)
 | .mk k a s n ps l,c,d,h=>by
  unfold stB;by_cases h6:k = 6
  ·rw [if_pos h6,if_pos h6];exact (in_sm a ps c d h).bnd fun c' d' h'=>h'
  rw [if_neg h6,if_neg h6];by_cases h7:k = 7
  ·rw [if_pos h7,if_pos h7];exact (in_sm a ps c d h).bnd fun c' d' h'=>h'
  rw [if_neg h7,if_neg h7,h.1];by_cases h12:k = 12
  ·rw [if_pos h12,if_pos h12];by_cases h1:namedB d.kn s=true
   ·rw [if_pos h1,if_pos h1];exact rfl
   rw [if_neg h1,if_neg h1];by_cases h2:paB d.kn s [] ps=false
   ·rw [if_pos h2,if_pos h2];exact rfl
   rw [if_neg h2,if_neg h2];exact exR_sm ⟨rfl,h.2.1,h.2.2⟩
  rw [if_neg h12,if_neg h12];by_cases h10:k = 10
  ·rw [if_pos h10,if_pos h10];refine exR_sm ?_;by_cases h1:isB d.kn s [0,1,3]=true
   ·rw [if_pos h1,if_pos h1];exact rfl
   rw [if_neg h1,if_neg h1];by_cases h2:isB d.kn s [2]=true
   ·rw [if_pos h2,if_pos h2];exact h
   ·rw [if_neg h2,if_neg h2];exact ⟨rfl,by show c.en ++ [s]=d.en ++ [s];rw [h.2.1],h.2.2⟩
  rw [if_neg h10,if_neg h10];by_cases h8:k = 8∨k = 9
  ·rw [if_pos h8,if_pos h8,h.2.2];refine exR_sm ?_;by_cases h1:(d.ou.map (·.1)).contains s=true
   ·rw [if_pos h1,if_pos h1];exact rfl
   ·rw [if_neg h1,if_neg h1];exact ⟨rfl,h.2.1,rfl⟩
  rw [if_neg h8,if_neg h8];by_cases h11:k = 11
  ·rw [if_pos h11,if_pos h11];refine exR_sm ?_;by_cases h1:namedB d.kn s=true
   ·rw [if_pos h1,if_pos h1];exact rfl
   ·rw [if_neg h1,if_neg h1,h.2.1];refine (sts_sm 2 l { c with kn:=d.kn.put s (3,0),en:=d.en ++ [s] } { d with kn:=d.kn.put s (3,0),en:=d.en ++ [s] } ⟨rfl,rfl,h.2.2⟩).bnd fun c' d' h'=>?_
    exact ⟨by show c'.kn.dels _=d'.kn.dels _;rw [h'.1,h'.2.1],by show c'.en.take _=d'.en.take _;rw [h'.2.1],h'.2.2⟩
  ·rw [if_neg h11,if_neg h11];exact h
theorem sts_sm:∀ (i:Nat) (l:List Tz) (c d:St),SmC c d→SmS (stBs i l c) (stBs i l d)
 | _,[],c,d,h=>by rw [stBs_nil,stBs_nil];exact h
 | 0,x :: l,c,d,h=>by
  rw [stBs_cons,stBs_cons];exact (st_sm x c d h).bnd fun c' d' h'=>sts_sm 0 l c' d' h'
 | i+1,x :: l,c,d,h=>by
  unfold stBs;exact sts_sm i l c d h
end
theorem st_op{z1 z2:Tz}(hz:OpT z1 z2)(c d:St)(h:SmC c d):SmS (stB z1 c) (stB z2 d):=by
 cases hz with
 | same z=>exact st_sm _ c d h
 | input a s n ps l=>
  unfold stB;rw [if_neg (by decide),if_pos rfl,if_pos rfl];exact (in_sm a ps c d h).bnd fun c' d' h'=>h'
theorem sts_op:∀ {l m:List Tz},OpS l m→∀ (c d:St),SmC c d→SmS (stBs 0 l c) (stBs 0 m d)
 | _,_,.nil,c,d,h=>by rw [stBs_nil,stBs_nil];exact h
 | _,_,.cons hx hs,c,d,h=>by
  rw [stBs_cons,stBs_cons];exact (st_op hx c d h).bnd fun c' d' h'=>sts_op hs c' d' h'
theorem ck_op(z:Tz):SmS (ckB (opz z)) (ckB z):=sts_op (op_z z) Nm.init Nm.init ⟨rfl,rfl,rfl⟩
end Go.Proofs.YtcgibpdjfgjldaaGreatDoor.Fl
namespace Go.Proofs.YtcgibpdjfgjldaaGreatDoor.Nm
open Go Go.ChangeShapes Go.WideShapes Go.ChangeAt Go.RowKit Lx Args Pa Sh
def meanR:Value→Option (DataW Unit×List MemPlace)
 | .agg cs=>match cs.toList with
  | [.int .i64 a,.int .i64 p]=>some (.agg [.lit (.int .i64 a),.lit (.int .i64 p)],[])
  | _=>none
 | _=>none
def mD(m:Nat×Nat):DataW Unit:=.agg [.lit (.int .i64 (m.1:Int)),.lit (.int .i64 (m.2:Int))]
theorem meanR_mk(a p:Int):meanR (.agg #[.int .i64 a,.int .i64 p])=some (.agg [.lit (.int .i64 a),.lit (.int .i64 p)],[]):=by simp [meanR]
theorem meanR_inv{v:Value}{m:Nat×Nat}{ps:List MemPlace}(h:meanR v=some (mD m,ps)):v = .agg #[.int .i64 (m.1:Int),.int .i64 (m.2:Int)]:=by
 unfold meanR at h;split at h
 ·rename_i cs;split at h
  ·rename_i a p hcs;simp only [Option.some.injEq,Prod.mk.injEq,mD,DataW.agg.injEq,List.cons.injEq,DataW.lit.injEq,Lit.int.injEq,true_and,and_true] at h;obtain ⟨⟨rfl,rfl⟩,_⟩:=h;have:cs=[Value.int .i64 (m.1:Int),.int .i64 (m.2:Int)].toArray:=by rw [←hcs]
   rw [this]
  ·cases h
 ·cases h
theorem uStr:Tryz.prog.underlying 9=some .string:=by kernel_rfl
theorem law:Maps.Keyed Tryz.prog 9:=Maps.string_keyed uStr
theorem key_of{s:Bs}(hs:s.length≤maxLen):keyOf Tryz.prog 9 (.string ⟨s.toArray⟩)=some (.string s):=by
 have:=WideMaps.keyOf_string_mk (P:=Tryz.prog) (k:=9) uStr (s:=⟨s.toArray⟩) (by simpa [ByteArray.size] using hs);simpa using this
theorem isKeyS(s:Bs):WideAt.IsKeyLit (.string s):=trivial
theorem key_ne{s t:Bs}(h:t≠s):(Lit.string t)≠.string s:=fun e=>h (by cases e;rfl)
structure MpK(w:World)(b n:Nat)(kn:Kn):Prop where
 ex:∃ D:DataW Unit,w.ownsMap Tryz.prog 9 meanR b n D∧∀ s:Bs,s.length≤maxLen→Maps.has D (.string s)=(kn s).isSome∧∀ m,kn s=some m→∀ z,D.atKey (.string s) z=mD m
 sorts:∀ s m,kn s=some m→m.1≤3∧m.2≤maxLen
structure MpS(w:World)(b n:Nat)(f:Bs→Bool):Prop where
 ex:∃ D:DataW Unit,w.ownsMap Tryz.prog 9 (unitElem (H:=Unit)) b n D∧∀ s:Bs,s.length≤maxLen→Maps.has D (.string s)=f s
theorem zMn(w:World):(zeroValue 104).run Tryz.prog w = .ok (.agg #[.int .i64 0,.int .i64 0]) w:=by kernel_rfl
theorem zUn(w:World):(zeroValue 229).run Tryz.prog w = .ok (.agg #[]) w:=by kernel_rfl
section
variable {w w' : World} {b n : Nat} {kn : Kn} {f : Bs → Bool} {s : Bs}
theorem MpK.lt(h:MpK w b n kn):b < w.heap.size:=by obtain ⟨D,h1,_⟩:=h.ex;exact h1.lt
theorem MpS.lt(h:MpS w b n f):b < w.heap.size:=by obtain ⟨D,h1⟩:=h.ex;exact h1.1.lt
theorem own_heap{R:Value→Option (DataW Unit×List MemPlace)}{D:DataW Unit}(h:w.ownsMap Tryz.prog 9 R b n D)(e:w'.heap[b]?=w.heap[b]?):w'.ownsMap Tryz.prog 9 R b n D:=by
 obtain ⟨es,clock,hb,h2⟩:=h;exact ⟨es,clock,e.trans hb,h2⟩
theorem MpK.heap(h:MpK w b n kn)(e:w'.heap[b]?=w.heap[b]?):MpK w' b n kn:=by
 obtain ⟨D,h1,h2⟩:=h.ex;exact ⟨⟨D,own_heap h1 e,h2⟩,h.sorts⟩
theorem MpS.heap(h:MpS w b n f)(e:w'.heap[b]?=w.heap[b]?):MpS w' b n f:=by
 obtain ⟨D,h1,h2⟩:=h.ex;exact ⟨⟨D,own_heap h1 e,h2⟩⟩
theorem MpK.upd{X:Nat→Prop}(h:MpK w b n kn)(hu:Upd X w w')(hx:¬ X b):MpK w' b n kn:=h.heap (hu.block b h.lt hx)
theorem MpS.upd{X:Nat→Prop}(h:MpS w b n f)(hu:Upd X w w')(hx:¬ X b):MpS w' b n f:=h.heap (hu.block b h.lt hx)
theorem MpK.mono(h:MpK w b n kn){m:Nat}(hm:n≤m):MpK w b m kn:=by
 obtain ⟨D,h1,h2⟩:=h.ex;exact ⟨⟨D,h1.mono hm,h2⟩,h.sorts⟩
theorem MpS.mono(h:MpS w b n f){m:Nat}(hm:n≤m):MpS w b m f:=by
 obtain ⟨D,h1,h2⟩:=h.ex;exact ⟨⟨D,h1.mono hm,h2⟩⟩
def kAt(kn:Kn)(s:Bs):Nat×Nat:=(kn s).getD (0,0)
theorem MpK.val(h:MpK w b n kn)(hs:s.length≤maxLen){D:DataW Unit}(hD:∀ s:Bs,s.length≤maxLen→Maps.has D (.string s)=(kn s).isSome∧∀ m,kn s=some m→∀ z,D.atKey (.string s) z=mD m){v:Value}{ps:List MemPlace}
  (hv:meanR v=some (D.atKey (.string s) (mD (0,0)),ps)):v = .agg #[.int .i64 ((kAt kn s).1:Int),.int .i64 ((kAt kn s).2:Int)]:=by
 obtain ⟨h1,h2⟩:=hD s hs;unfold kAt;cases hk:kn s with
 | none=>
  rw [hk] at h1;rw [Maps.atKey_of_not_has h1] at hv;exact meanR_inv hv
 | some m=>
  rw [h2 m hk] at hv;exact meanR_inv hv
theorem MpK.look(h:MpK w b n kn)(hs:s.length≤maxLen):(Instr.lookup 105 (.map (some b)) (.string ⟨s.toArray⟩) true).run Tryz.prog w = .ok (.tuple #[.agg #[.int .i64 ((kAt kn s).1:Int),.int .i64 ((kAt kn s).2:Int)],.bool (kn s).isSome]) w:=by
 obtain ⟨D,h1,h2⟩:=h.ex;obtain ⟨v,ps,hr,hv⟩:=h1.look_ok law Tryz.underlying105 (zMn w) (zd:=mD (0,0)) (meanR_mk 0 0) (key_of hs);rw [hr,h.val hs h2 hv,(h2 s hs).1]
theorem MpK.look1(h:MpK w b n kn)(hs:s.length≤maxLen):(Instr.lookup 105 (.map (some b)) (.string ⟨s.toArray⟩) false).run Tryz.prog w = .ok (.agg #[.int .i64 ((kAt kn s).1:Int),.int .i64 ((kAt kn s).2:Int)]) w:=by
 obtain ⟨D,h1,h2⟩:=h.ex;obtain ⟨v,ps,hr,hv⟩:=h1.lookup law Tryz.underlying105 (zMn w) (zd:=mD (0,0)) (meanR_mk 0 0) (key_of hs);rw [hr,h.val hs h2 hv]
theorem MpS.look(h:MpS w b n f)(hs:s.length≤maxLen):(Instr.lookup 107 (.map (some b)) (.string ⟨s.toArray⟩) true).run Tryz.prog w = .ok (.tuple #[.agg #[],.bool (f s)]) w:=by
 obtain ⟨D,h1,h2⟩:=h.ex;obtain ⟨v,ps,hr,hv⟩:=h1.look_ok law Tryz.underlying107 (zUn w) (zd:=.agg []) unitElem_mk (key_of hs);obtain ⟨rfl,_⟩:=unitElem_inv hv;rw [hr,h2 s hs]
theorem turned_upd{X:Nat→Prop}(h:w.mapTurned w' b)(hx:X b):Upd X w w':=(Upd.refl X w).grown h.grown fun k hk _=>by cases hk;exact hx
theorem MpK.put(h:MpK w b n kn)(hs:s.length≤maxLen)(hn:n < maxLen)(m:Nat×Nat)(hm:m.1≤3)(hm2:m.2≤maxLen) :
  ∃ w',(Instr.mapUpdate 105 (.map (some b)) (.string ⟨s.toArray⟩) (.agg #[.int .i64 (m.1:Int),.int .i64 (m.2:Int)])).run Tryz.prog w = .ok () w'∧MpK w' b (n+1) (kn.put s m)∧w.mapTurned w' b:=by
 obtain ⟨D,h1,h2⟩:=h.ex;obtain ⟨w',hr,h3,h4⟩:=h1.store law Tryz.underlying105 hn (key_of hs) (d:=mD m) (meanR_mk _ _);refine ⟨w',hr,⟨⟨_,h3,fun t ht=>?_⟩,fun t m' ht=>?_⟩,h4⟩
 ·unfold Kn.put;by_cases e:t=s
  ·subst e;rw [if_pos rfl];refine ⟨Maps.has_put_same h1.isMap (isKeyS _) _,fun m' hm' z=>?_⟩;cases hm';exact Maps.atKey_put_same h1.isMap (isKeyS _) _ _
  ·rw [if_neg e];refine ⟨(Maps.has_put_other (key_ne e) _).trans (h2 t ht).1,fun m' hm' z=>(Maps.atKey_put_other (key_ne e) _ _).trans ((h2 t ht).2 m' hm' z)⟩
 ·unfold Kn.put at ht;by_cases e:t=s
  ·rw [if_pos e] at ht;cases ht;exact ⟨hm,hm2⟩
  ·rw [if_neg e] at ht;exact h.sorts t m' ht
theorem MpK.del(h:MpK w b n kn)(hs:s.length≤maxLen)(ty:TypeId) :
  ∃ w',(Builtin.delete_ #[105,9] ty #[.map (some b),.string ⟨s.toArray⟩]).run Tryz.prog w = .ok (.tuple #[]) w'∧MpK w' b n (kn.dels [s])∧w.mapTurned w' b:=by
 obtain ⟨D,h1,h2⟩:=h.ex;obtain ⟨w',hr,h3,h4⟩:=h1.drop law Tryz.underlying105 (key_of hs) ty;refine ⟨w',hr,⟨⟨_,h3,fun t ht=>?_⟩,fun t m' ht=>?_⟩,h4⟩
 ·unfold Kn.dels;by_cases e:t=s
  ·subst e;rw [if_pos (by simp)];exact ⟨Maps.has_del_same,fun m' hm'=>by cases hm'⟩
  ·rw [if_neg (by simpa using e)];exact ⟨(Maps.has_del_other (key_ne e)).trans (h2 t ht).1,fun m' hm' z=>(Maps.atKey_del_other (key_ne e) _).trans ((h2 t ht).2 m' hm' z)⟩
 ·unfold Kn.dels at ht;by_cases e:t∈[s]
  ·rw [if_pos e] at ht;cases ht
  ·rw [if_neg e] at ht;exact h.sorts t m' ht
theorem MpS.put(h:MpS w b n f)(hs:s.length≤maxLen)(hn:n < maxLen) :
  ∃ w',(Instr.mapUpdate 107 (.map (some b)) (.string ⟨s.toArray⟩) (.agg #[])).run Tryz.prog w = .ok () w'∧MpS w' b (n+1) (fun t=>f t || t==s)∧w.mapTurned w' b:=by
 obtain ⟨D,h1,h2⟩:=h.ex;obtain ⟨w',hr,h3,h4⟩:=h1.store law Tryz.underlying107 hn (key_of hs) (d:=.agg []) unitElem_mk;refine ⟨w',hr,⟨⟨_,h3,fun t ht=>?_⟩⟩,h4⟩;by_cases e:t=s
 ·subst e;rw [Maps.has_put_same h1.isMap (isKeyS _)];simp
 ·rw [Maps.has_put_other (key_ne e),h2 t ht];have:(t==s)=false:=by simpa using e
  rw [this,Bool.or_false]
theorem MpK.made(w:World):MpK (w.alloc (.map #[] 0)) w.heap.size 0 (fun _=>none):=
 ⟨⟨_,World.ownsMap_made w _ _ _,fun s _=>⟨rfl,fun m hm=>by cases hm⟩⟩,fun s m hm=>by cases hm⟩
theorem MpS.made(w:World):MpS (w.alloc (.map #[] 0)) w.heap.size 0 (fun _=>false):=⟨⟨_,World.ownsMap_made w _ _ _,fun s _=>rfl⟩⟩
end
end Go.Proofs.YtcgibpdjfgjldaaGreatDoor.Nm
namespace Go.Proofs.YtcgibpdjfgjldaaGreatDoor.Lx
open Go Go.ChangeShapes Go.WideShapes Go.ChangeAt Go.RowKit Args
theorem letter(c:UInt8)(w:World):Calls Tryz.prog 49 #[.int .u8 ((c.toNat:Nat):Int)] w fun e w'=>e = .returned (.bool (letB c))∧w=w':=by
 have hb:letB c=((decide (65≤c.toNat) && decide (c.toNat≤90)) || (decide (97≤c.toNat) && decide (c.toNat≤122))):=rfl;generalize letB c=b at *;generalize c.toNat=k at *;by_cases h1:65≤k
 ·by_cases h2:k≤90
  ·have HB:=Hi (show b=true by rw [hb];simp [h1,h2]);have i1:decide ((65:Int)≤(k:Int))=true:=by simp;omega
   have i2:decide ((k:Int)≤90)=true:=by simp;omega
   clear hb h1 h2;go_enter Tryz.func49,Tryz.ntmps49;go_wp2_with fail
   go_ret;exact ⟨(congrArg (fun b=>Ending.returned (Value.bool b)) HB.out).symm,rfl⟩
  ·by_cases h3:97≤k
   ·by_cases h4:k≤122
    ·have HB:=Hi (show b=true by rw [hb];simp [h3,h4]);have i1:decide ((65:Int)≤(k:Int))=true:=by simp;omega
     have i2:decide ((k:Int)≤90)=false:=by simp;omega
     have i3:decide ((97:Int)≤(k:Int))=true:=by simp;omega
     have i4:decide ((k:Int)≤122)=true:=by simp;omega
     clear hb h1 h2 h3 h4;go_enter Tryz.func49,Tryz.ntmps49;go_wp2_with fail
     go_ret;exact ⟨(congrArg (fun b=>Ending.returned (Value.bool b)) HB.out).symm,rfl⟩
    ·have HB:=Hi (show b=false by rw [hb];simp;omega);have i1:decide ((65:Int)≤(k:Int))=true:=by simp;omega
     have i2:decide ((k:Int)≤90)=false:=by simp;omega
     have i3:decide ((97:Int)≤(k:Int))=true:=by simp;omega
     have i4:decide ((k:Int)≤122)=false:=by simp;omega
     clear hb h1 h2 h3 h4;go_enter Tryz.func49,Tryz.ntmps49;go_wp2_with fail
     go_ret;exact ⟨(congrArg (fun b=>Ending.returned (Value.bool b)) HB.out).symm,rfl⟩
   ·have HB:=Hi (show b=false by rw [hb];simp;omega);have i1:decide ((65:Int)≤(k:Int))=true:=by simp;omega
    have i2:decide ((k:Int)≤90)=false:=by simp;omega
    have i3:decide ((97:Int)≤(k:Int))=false:=by simp;omega
    clear hb h1 h2 h3;go_enter Tryz.func49,Tryz.ntmps49;go_wp2_with fail
    go_ret;exact ⟨(congrArg (fun b=>Ending.returned (Value.bool b)) HB.out).symm,rfl⟩
 ·have HB:=Hi (show b=false by rw [hb];simp;omega);have i1:decide ((65:Int)≤(k:Int))=false:=by simp;omega
  have i3:decide ((97:Int)≤(k:Int))=false:=by simp;omega
  clear hb h1;go_enter Tryz.func49,Tryz.ntmps49;go_wp2_with fail
  go_ret;exact ⟨(congrArg (fun b=>Ending.returned (Value.bool b)) HB.out).symm,rfl⟩
theorem num(c:UInt8)(w:World):Calls Tryz.prog 50 #[.int .u8 ((c.toNat:Nat):Int)] w fun e w'=>e = .returned (.bool (numB c))∧w=w':=by
 have hb:numB c=(decide (48≤c.toNat) && decide (c.toNat≤57)):=rfl;generalize numB c=b at *;generalize c.toNat=k at *;by_cases h1:48≤k
 ·by_cases h2:k≤57
  ·have HB:=Hi (show b=true by rw [hb];simp [h1,h2]);have i1:decide ((48:Int)≤(k:Int))=true:=by simp;omega
   have i2:decide ((k:Int)≤57)=true:=by simp;omega
   clear hb h1 h2;go_enter Tryz.func50,Tryz.ntmps50;go_wp2_with fail
   go_ret;exact ⟨(congrArg (fun b=>Ending.returned (Value.bool b)) HB.out).symm,rfl⟩
  ·have HB:=Hi (show b=false by rw [hb];simp;omega);have i1:decide ((48:Int)≤(k:Int))=true:=by simp;omega
   have i2:decide ((k:Int)≤57)=false:=by simp;omega
   clear hb h1 h2;go_enter Tryz.func50,Tryz.ntmps50;go_wp2_with fail
   go_ret;exact ⟨(congrArg (fun b=>Ending.returned (Value.bool b)) HB.out).symm,rfl⟩
 ·have HB:=Hi (show b=false by rw [hb];simp;omega);have i1:decide ((48:Int)≤(k:Int))=false:=by simp;omega
  clear hb h1;go_enter Tryz.func50,Tryz.ntmps50;go_wp2_with fail
  go_ret;exact ⟨(congrArg (fun b=>Ending.returned (Value.bool b)) HB.out).symm,rfl⟩
abbrev strs(l:List Bs):List Value:=l.map fun t=>.string ⟨t.toArray⟩
theorem inL(l:List Bs)(s:Bs):∀ k,(∀ j,j < k→l[j]?≠some s)→(l.drop k).contains s=l.contains s:=fun k h=>by
 induction k generalizing l with
 | zero=>rfl
 | succ k ih=>
  cases l with
  | nil=>rfl
  | cons x l=>
   rw [List.drop_succ_cons,ih l fun j hj=>by have:=h (j+1) (by omega);simpa using this];have hx:x≠s:=fun e=>h 0 (by omega) (by simp [e])
   simp only [List.contains_eq_mem,List.mem_cons,Ne.symm hx,false_or]
theorem in_(A:Option Addr)(c:Nat)(l:List Bs)(s:ByteArray)(w:World)(hA:Lies w A (strs l))(hl:l.length≤1000) :
  Calls Tryz.prog 52 #[.slice A l.length c,.string s] w fun e w'=>e = .returned (.bool (l.contains s.data.toList))∧w=w':=by
 have hin:=inL l s.data.toList;have HA:=Hi hA;have HIN:=Hi hin;clear hA hin;generalize hb:l.contains s.data.toList=b at *;have HB:=Hi hb;clear hb;go_enter Tryz.func52,Tryz.ntmps52;go_wp2_with fail
 go_loop [5] (fun vi=>∃ k:Nat,k≤l.length∧vi = .int .i64 k∧Hid (∀ j,j < k→l[j]?≠some s.data.toList)) (fun vi=>l.length - (intOf vi).toNat)
 case atStart=>exact ⟨0,by omega,rfl,Hi fun j hj=>absurd hj (by omega)⟩
 case round=>
  obtain ⟨k,hk,rfl,HQ⟩:=hrel;by_cases hlt:k < l.length
  ·obtain ⟨t,ht⟩:∃ t,l[k]?=some t:=⟨_,List.getElem?_eq_getElem hlt⟩;have ht2:(strs l)[k]?=some (.string ⟨t.toArray⟩):=by simp [ht]
   obtain ⟨b',o,rfl,_,hc⟩:=HA.out.at_ ht2;have e1:=hc _ _ ht2;have HTT:=Hi ht;clear hc ht2 ht;cases hq:(t==s.toList) with
   | true=>
    have hts:t=s.data.toList:=by have:=eq_of_beq hq;rwa [ByteArray.toList_eq] at this
    have HR:=Hi (show b=true from by rw [←HB.out,List.contains_eq_mem,decide_eq_true_eq,←hts];exact List.mem_of_getElem? HTT.out);clear hts;go_wp2_with fail
    go_ret;exact ⟨(congrArg (fun b=>Ending.returned (Value.bool b)) HR.out).symm,rfl⟩
   | false=>
    have hts:t≠s.data.toList:=fun e=>by rw [ByteArray.toList_eq,e] at hq;simp at hq
    have HTS:=Hi hts;clear hts;go_wp2_with fail
    go_round
    case rel=>exact ⟨k+1,by omega,by go_num,Hi fun j hj=>by
     by_cases hjk:j < k
     ·exact HQ.out j hjk
     ·obtain rfl:j=k:=by omega
      rw [HTT.out];intro e;exact HTS.out (Option.some.inj e)⟩
    case measure=>simp [intOf];omega
  ·have HR:=Hi (show b=false from by rw [←HIN.out k HQ.out,List.drop_of_length_le (by omega)];rfl);go_wp2_with fail
   go_ret;exact ⟨(congrArg (fun b=>Ending.returned (Value.bool b)) HR.out).symm,rfl⟩
theorem lies_strs(w:World)(t:TypeId)(l:List Bs):Lies (w.alloc (.cells (strs l).toArray t)) (some ⟨w.heap.size,0,none⟩) (strs l):=fun j u hj=>⟨_,rfl,by
 rw [Args.add_plain,Nat.zero_add,World.cell?_alloc_at _ _ _ _ rfl];simpa using hj⟩
theorem word(s:ByteArray)(w:World):Calls Tryz.prog 51 #[.string s] w fun e w'=>e = .returned (.bool (wordB s.data.toList))∧Below w.heap.size w w':=by
 have hI:=in_ (some ⟨w.heap.size,0,none⟩) 7 words7 s (w.alloc (.cells (strs words7).toArray 9)) (lies_strs w 9 words7) (by decide);have hx:Below w.heap.size w (w.alloc (.cells (strs words7).toArray 9)):=(Below.refl _ _).alloc (Nat.le_refl _) _;have HX:=Hi hx;rw [show words7.contains s.data.toList=wordB s.data.toList from rfl] at hI;generalize wordB s.data.toList=b at *;have HI:=Hi hI;clear hI hx;go_enter Tryz.func51,Tryz.ntmps51;go_wp2_with fail
 refine HI.out.mono ?_;rintro e w' ⟨rfl,rfl⟩;go_wp2_with fail
 go_ret;exact ⟨rfl,HX.out⟩
end Go.Proofs.YtcgibpdjfgjldaaGreatDoor.Lx
