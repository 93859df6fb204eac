/- DERIVED. ShMade, EvSpec, RfT, LxN, LxPa. By an AI agent. -/
import Derived.Test.YtcgibpdjfgjldaaGreatDoorT10
import Derived.RangeFuncNested
set_option maxHeartbeats 1000000
set_option linter.unusedVariables false
set_option linter.unusedSimpArgs false
namespace Go.Proofs.YtcgibpdjfgjldaaGreatDoor
namespace Pa
open Lx
mutual
def gE(Q:Bs->Prop):Tr->Prop
 | .mk k _ s n ps l=>ps=[]/\gEs Q l/\n < 4294967296/\((k = 0/\s=[]/\l=[])\/(n = 0/\((k = 1/\Q s/\l=[])\/(k = 2/\(s=[126]\/s=[45])/\l.length = 1) \/
   (k = 3/\(s=[124]\/s=[94]\/s=[38]\/s=[43]\/s=[45])/\l.length = 2)\/(k = 4/\(s=[60,60]\/s=[62,62]\/s=[60,60,60])/\l.length = 2)\/(k = 5/\Q s/\l≠[]))))
def gEs(Q:Bs->Prop):List Tr->Prop
 | []=>True
 | x :: l=>gE Q x/\gEs Q l
end
mutual
def gS(Q:Bs->Prop):Tr->Prop
 | .mk k _ s n ps l=>n = 0/\ps=[]/\Q s/\((k = 10/\l.length = 1/\gA Q 1 l)\/(k = 11/\2<=l.length/\gA Q 2 l))
def gA(Q:Bs->Prop):Nat->List Tr->Prop
 | _,[]=>True
 | 0,x :: l=>gS Q x/\gA Q 0 l
 | i+1,x :: l=>gE Q x/\gA Q i l
end
def gT(Q:Bs->Prop):Tr->Prop
 | .mk k a s n ps l=>gS Q (.mk k a s n ps l)\/(n = 0/\(((k = 6\/k = 7)/\s=[]/\l=[]/\ps≠[]/\(∀ p∈ps,Q p))\/((k = 8\/k = 9)/\ps=[]/\Q s/\∃ x,l=[x]/\gE Q x) \/
   (k = 12/\ps≠[]/\(∀ p∈ps,Q p)/\Q s/\∃ x,l=[x]/\gE Q x)))
theorem gE_put{Q:Bs->Prop}{x:Tr}(h:gE Q x)(a:Nat):gE Q (x.put a):=by
 cases x;unfold Tr.put gE;unfold gE at h;exact h
def TQ(Q:Bs->Prop)(l:List Tk):Prop:=∀ t∈l,t.k = 1->Q t.s
theorem TQ.tail{Q:Bs->Prop}{t:Tk}{l:List Tk}(h:TQ Q (t :: l)):TQ Q l:=fun u hu=>h u (List.mem_cons_of_mem _ hu)
theorem TQ.hd{Q:Bs->Prop}{t:Tk}{l:List Tk}(h:TQ Q (t :: l))(hk:t.k = 1):Q t.s:=h t (List.mem_cons_self ..) hk
def Gr(Q:Bs->Prop)(P:List Tr->Prop):OO->Prop
 | some (.ok xs r)=>P xs/\TQ Q r
 | _=>True
section
variable {Q : Bs -> Prop} {P P' : List Tr -> Prop}
theorem q1f(l:List Tk)(e:Nat):Gr Q P (wrong l e):=trivial
theorem q0P{c:Prop}[Decidable c]{o p:OO}(h1:c->Gr Q P o)(h2:¬ c->Gr Q P p):Gr Q P (if c then o else p):=by
 by_cases h:c
 ·rw [if_pos h];exact h1 h
 ·rw [if_neg h];exact h2 h
theorem q19{o:OO}{f:List Tr->List Tk->OO}(h:Gr Q P o)(hf:∀ xs r,P xs->TQ Q r->Gr Q P' (f xs r)):Gr Q P' (bnd o f):=by
 rcases o with _ | ⟨xs,r⟩ | ⟨a,e⟩
 ·trivial
 ·exact hf xs r h.1 h.2
 ·trivial
theorem gr_ok{xs:List Tr}{r:List Tk}(h:P xs)(hr:TQ Q r):Gr Q P (some (.ok xs r)):=⟨h,hr⟩
theorem q28{o:OO}(h:Gr Q P o)(hP:∀ xs,P xs->P' xs):Gr Q P' o:=by
 rcases o with _ | ⟨xs,r⟩ | ⟨a,e⟩
 ·trivial
 ·exact ⟨hP xs h.1,h.2⟩
 ·trivial
theorem q0w{b:Bs}{l:List Tk}{f:List Tk->OO}(h:TQ Q l)(hf:∀ r,TQ Q r->Gr Q P (f r)):Gr Q P (must b l f):=by
 cases l with
 | nil=>trivial
 | cons t r=>exact q0P (fun _=>hf r h.tail) fun _=>q1f _ _
theorem q29{l:List Tk}{f:Bs->List Tk->OO}(h:TQ Q l)(hf:∀ s r,Q s->TQ Q r->Gr Q P (f s r)):Gr Q P (nameK l f):=by
 cases l with
 | nil=>trivial
 | cons t r=>exact q0P (fun hk=>hf t.s r (h.hd hk) h.tail) fun _=>q1f _ _
theorem q2s{f:List Bs->List Tk->OO}(hf:∀ ps r,ps≠[]->(∀ p∈ps,Q p)->TQ Q r->Gr Q P (f ps r)):∀ (ps:List Bs) (l:List Tk),(∀ p∈ps,Q p)->TQ Q l->Gr Q P (namesK ps l f)
 | _,[],_,_=>trivial
 | ps,[t],hp,h=>by
  unfold namesK;exact q0P (fun hk=>hf _ _ V3 (fun p hm=>by
   rcases List.mem_append.1 hm with hm | hm
   ·exact hp p hm
   ·rw [List.mem_singleton.1 hm];exact h.hd hk) h.tail) fun _=>q1f _ _
 | ps,t :: u :: r,hp,h=>by
  unfold namesK;refine q0P (fun hk=>?_) fun _=>q1f _ _
  have hq:∀ p∈ps ++ [t.s],Q p:=fun p hm=>by
   rcases List.mem_append.1 hm with hm | hm
   ·exact hp p hm
   ·rw [List.mem_singleton.1 hm];exact h.hd hk
  exact q0P (fun _=>q2s hf _ r hq h.tail.tail) fun _=>hf _ _ V3 hq h.tail
end
def preM(Q:Bs->Prop):NT->Prop
 | .more _ x=>gE Q x
 | _=>True
def gN(Q:Bs->Prop):NT->List Tr->Prop
 | .lev _,xs=>∃ x,xs=[x]/\gE Q x
 | .more _ _,xs=>∃ x,xs=[x]/\gE Q x
 | .args l,xs=>∃ ys,xs=l ++ ys/\gEs Q ys
 | .fin k a s ps,xs=>∃ x,xs=[.mk k a s 0 ps [x]]/\gE Q x
 | .inner,xs=>∃ x,xs=[x]/\gS Q x
 | .inners l,xs=>∃ ys,xs=l ++ ys/\gA Q 0 ys
 | .stmt,xs=>∃ x,xs=[x]/\gT Q x
 | .stmts l,xs=>∃ ys,xs=l ++ ys/\∀ y∈ys,gT Q y
theorem on_bin{Q:Bs->Prop}{n:Nat}{t:Tk}{x y:Tr}(h:onS n t=true)(hx:gE Q x)(hy:gE Q y)(a:Nat):gE Q (.mk (if n = 3 then 4 else 3) a t.s 0 [] [x,y]):=by
 unfold onS at h;simp only [Bool.and_eq_true,List.contains_iff_mem] at h;have hs:=h.2;unfold gE;refine ⟨rfl,⟨hx,hy,trivial⟩,V2,.inr ⟨rfl,?_⟩⟩;rcases n with _ | _ | _ | _ | n
 ·simp only [sOf,List.mem_singleton] at hs;exact .inr (.inr (.inl ⟨rfl,.inl hs,rfl⟩))
 ·simp only [sOf,List.mem_singleton] at hs;exact .inr (.inr (.inl ⟨rfl,.inr (.inl hs),rfl⟩))
 ·simp only [sOf,List.mem_singleton] at hs;exact .inr (.inr (.inl ⟨rfl,.inr (.inr (.inl hs)),rfl⟩))
 ·simp only [sOf,List.mem_cons,List.not_mem_nil,or_false] at hs;exact .inr (.inr (.inr (.inl ⟨rfl,hs,rfl⟩)))
 ·simp only [sOf,List.mem_cons,List.not_mem_nil,or_false] at hs;refine .inr (.inr (.inl ⟨if_neg V0,?_,rfl⟩));rcases hs with hs | hs
  ·exact .inr (.inr (.inr (.inl hs)))
  ·exact .inr (.inr (.inr (.inr hs)))
theorem q4D{num:Bs->Nat×Nat}{Q:Bs->Prop}(hn:∀ b,(num b).1 < 4294967296):∀ (f:Nat) (nt:NT) (d:Nat) (l:List Tk),preM Q nt->TQ Q l->Gr Q (gN Q nt) (pF num f nt d l):=by
 intro f
 induction f with
 | zero=>intros;trivial
 | succ f ih=>
  intro nt d l hp h;cases nt with
  | lev n=>
   unfold pF;refine q0P (fun _=>q19 (ih (.lev (n+1)) _ _ trivial h) fun xs r hx hr=>?_) fun _=>?_
   ·obtain ⟨x,rfl,hx⟩:=hx;exact ih (.more n x) _ _ hx hr
   cases l with
   | nil=>trivial
   | cons t r=>
   refine q0P (fun _=>q1f _ _) fun _=>q0P (fun hs=>?_) fun _=>q0P (fun hk=>?_) fun _=>q0P (fun hs=>?_) fun _=>q29 h fun s r hs hr=>?_
   ·refine q19 (ih (.lev 5) _ _ trivial h.tail) fun xs r' hx hr=>⟨?_,hr⟩
    obtain ⟨x,rfl,hx⟩:=hx;refine ⟨_,rfl,?_⟩;unfold gE;refine ⟨rfl,⟨hx,trivial⟩,V2,.inr ⟨rfl,.inr (.inl ⟨rfl,?_,rfl⟩)⟩⟩;unfold isS at hs;simp only [Bool.or_eq_true,Bool.and_eq_true,beq_iff_eq] at hs;rcases hs with hs | hs
    ·exact .inl hs.2
    ·exact .inr hs.2
   ·refine q0P (fun _=>⟨⟨_,rfl,?_⟩,h.tail⟩) fun _=>q1f _ _
    unfold gE;exact ⟨rfl,trivial,hn _,.inl ⟨rfl,rfl,rfl⟩⟩
   ·refine q19 (ih (.lev 0) _ _ trivial h.tail) fun xs r' hx hr=>q0w hr fun r2 hr2=>⟨?_,hr2⟩
    obtain ⟨x,rfl,hx⟩:=hx;exact ⟨_,rfl,gE_put hx _⟩
   ·have leaf:gE Q (.mk 1 t.at_ s 0 [] []):=by
     unfold gE;exact ⟨rfl,trivial,V2,.inr ⟨rfl,.inl ⟨rfl,hs,rfl⟩⟩⟩
    cases r with
    | nil=>exact ⟨⟨_,rfl,leaf⟩,hr⟩
    | cons u r'=>
     refine q0P (fun hu=>?_) fun _=>⟨⟨_,rfl,leaf⟩,hr⟩
     refine q19 (ih (.lev 0) _ _ trivial hr.tail) fun xs r2 hx hr2=>q19 (ih (.args xs) _ _ trivial hr2) fun ys r3 hy hr3=>q0w hr3 fun r4 hr4=>⟨?_,hr4⟩
     obtain ⟨x,rfl,hx⟩:=hx;obtain ⟨zs,rfl,hz⟩:=hy;refine ⟨_,rfl,?_⟩;unfold gE;exact ⟨rfl,⟨hx,hz⟩,V2,.inr ⟨rfl,.inr (.inr (.inr (.inr ⟨rfl,hs,V3⟩)))⟩⟩
  | more n x=>
   unfold pF;cases l with
   | nil=>exact ⟨⟨_,rfl,hp⟩,h⟩
   | cons t r=>
    refine q0P (fun hs=>q19 (ih (.lev (n+1)) _ _ trivial h.tail) fun ys r' hy hr'=>?_) fun _=>⟨⟨_,rfl,hp⟩,h⟩
    obtain ⟨y,rfl,hy⟩:=hy;exact ih (.more n (.mk (if n = 3 then 4 else 3) x.place t.s 0 [] [x,y])) d r' (on_bin hs hp hy x.place) hr'
  | args xs=>
   unfold pF;cases l with
   | nil=>exact ⟨⟨[],V3,trivial⟩,h⟩
   | cons t r=>
    refine q0P (fun hs=>q19 (ih (.lev 0) _ _ trivial h.tail) fun ys r' hy hr'=>?_) fun _=>⟨⟨[],V3,trivial⟩,h⟩
    obtain ⟨y,rfl,hy⟩:=hy;refine q28 (ih (.args (xs ++ [y])) d r' trivial hr') fun zs hz=>?_
    obtain ⟨us,rfl,hu⟩:=hz;exact ⟨y :: us,V3,hy,hu⟩
  | fin k a s ps=>
   unfold pF;refine q19 (ih (.lev 0) _ _ trivial h) fun xs r hx hr=>q0w hr fun r' hr'=>⟨?_,hr'⟩
   obtain ⟨x,rfl,hx⟩:=hx;exact ⟨x,rfl,hx⟩
  | inner=>
   unfold pF;cases l with
   | nil=>trivial
   | cons t r=>
    refine q0P (fun _=>q1f _ _) fun _=>q0P (fun hs=>?_) fun _=>q29 h fun s r hs hr=>q0w hr fun r hr=>?_
    ·refine q29 h.tail fun s r hs hr=>q0w hr fun r hr=>q19 (ih (.lev 0) _ _ trivial hr) fun xs r hx hr=>q0w hr fun r hr=>q19 (ih (.lev 0) _ _ trivial hr) fun ys r hy hr=>q0w hr fun r hr=>q19 (ih (.inners (xs ++ ys)) _ _ trivial hr) fun zs r hz hr=>⟨?_,hr⟩
     obtain ⟨x,rfl,hx⟩:=hx;obtain ⟨y,rfl,hy⟩:=hy;obtain ⟨us,rfl,hu⟩:=hz;refine ⟨_,rfl,?_⟩;unfold gS;refine ⟨rfl,rfl,hs,.inr ⟨rfl,V3,?_⟩⟩;show gA Q 2 (x :: y :: us);unfold gA;refine ⟨hx,?_⟩;unfold gA;exact ⟨hy,hu⟩
    ·refine q28 (ih (.fin 10 t.at_ s []) d r trivial hr) fun zs hz=>?_
     obtain ⟨x,rfl,hx⟩:=hz;refine ⟨_,rfl,?_⟩;unfold gS;refine ⟨rfl,rfl,hs,.inl ⟨rfl,rfl,?_⟩⟩;unfold gA;exact ⟨hx,by unfold gA;trivial⟩
  | inners zs=>
   unfold pF;cases l with
   | nil=>trivial
   | cons t r=>
    refine q0P (fun _=>⟨⟨[],V3,by unfold gA;trivial⟩,h.tail⟩) fun _=>q19 (ih .inner _ _ trivial h) fun xs r' hx hr'=>?_
    obtain ⟨x,rfl,hx⟩:=hx;refine q28 (ih (.inners (zs ++ [x])) d r' trivial hr') fun ys hz=>?_
    obtain ⟨us,rfl,hu⟩:=hz;exact ⟨x :: us,V3,by unfold gA;exact ⟨hx,hu⟩⟩
  | stmt=>
   unfold pF;cases l with
   | nil=>trivial
   | cons t r=>
    have fin:∀ (k:Nat) (s:Bs) (ps:List Bs) (r:List Tk),TQ Q r->(∀ x,gE Q x->gT Q (.mk k t.at_ s 0 ps [x]))->Gr Q (gN Q .stmt) (pF num f (.fin k t.at_ s ps) d r):=fun k s ps r hr hk=>by
     refine q28 (ih (.fin k t.at_ s ps) d r trivial hr) fun zs hz=>?_
     obtain ⟨x,rfl,hx⟩:=hz;exact ⟨_,rfl,hk x hx⟩
    refine q0P (fun _=>?_) fun _=>q0P (fun _=>?_) fun _=>q0P (fun _=>?_) fun _=>q0P (fun _=>?_) fun _=>q0P (fun _=>?_) fun _=>?_
    ·exact q2s (fun ps r h0 hq hr=>q0w hr fun r hr=>gr_ok ⟨_,rfl,by unfold gT;exact .inr ⟨rfl,.inl ⟨.inl rfl,rfl,rfl,h0,hq⟩⟩⟩ hr) [] r V3 h.tail
    ·exact q2s (fun ps r h0 hq hr=>q0w hr fun r hr=>gr_ok ⟨_,rfl,by unfold gT;exact .inr ⟨rfl,.inl ⟨.inr rfl,rfl,rfl,h0,hq⟩⟩⟩ hr) [] r V3 h.tail
    ·exact q29 h.tail fun s r hs hr=>q0w hr fun r hr=>fin 8 s [] r hr fun x hx=>by unfold gT;exact .inr ⟨rfl,.inr (.inl ⟨.inl rfl,rfl,hs,x,rfl,hx⟩)⟩
    ·exact q29 h.tail fun s r hs hr=>q0w hr fun r hr=>fin 9 s [] r hr fun x hx=>by unfold gT;exact .inr ⟨rfl,.inr (.inl ⟨.inr rfl,rfl,hs,x,rfl,hx⟩)⟩
    ·exact q29 h.tail fun s r hs hr=>q0w hr fun r hr=>q2s (fun ps r h0 hq hr=>q0w hr fun r hr=>q0w hr fun r hr=>fin 12 s ps r hr fun x hx=>by unfold gT;exact .inr ⟨rfl,.inr (.inr ⟨rfl,h0,hq,hs,x,rfl,hx⟩)⟩) [] r V3 hr
    ·refine q28 (ih .inner 0 (t :: r) trivial h) fun zs hz=>?_
     obtain ⟨x,rfl,hx⟩:=hz;refine ⟨x,rfl,?_⟩;cases x;unfold gT;exact .inl hx
  | stmts xs=>
   unfold pF;cases l with
   | nil=>trivial
   | cons t r=>
    refine q0P (fun _=>⟨⟨[],V3,V3⟩,h⟩) fun _=>q19 (ih .stmt _ _ trivial h) fun ys r' hy hr'=>?_
    obtain ⟨y,rfl,hy⟩:=hy;refine q28 (ih (.stmts (xs ++ [y])) d r' trivial hr') fun zs hz=>?_
    obtain ⟨us,rfl,hu⟩:=hz;refine ⟨y :: us,V3,fun z hz=>?_⟩;rcases List.mem_cons.1 hz with rfl | hz
    ·exact hy
    ·exact hu z hz
end Pa
namespace Ev
open Lx Pa Sh Go.Proofs.YtcgibpdjfgjldaaGreatDoor.Nm Fl
abbrev Kn:=Bs->Option (BitVec 32)
abbrev loN0:Lo:=fun _=>none
mutual
def mdE:Tz->Prop
 | .mk k _ s n _ l=>n < 4294967296/\mdEs l/\((k = 0/\l=[])\/(k = 1/\l=[])\/(k = 2/\(s=[126]\/s=[45])/\l.length = 1) \/
   (k = 3/\(s=[124]\/s=[94]\/s=[38]\/s=[43]\/s=[45])/\l.length = 2)\/(k = 4/\(s=[60,60]\/s=[62,62]\/s=[60,60,60])/\l.length = 2)\/(k = 5/\l≠[]))
def mdEs:List Tz->Prop
 | []=>True
 | x :: l=>mdE x/\mdEs l
end
mutual
theorem q68{Q:Bs->Prop}:∀ {x:Tr},gE Q x->mdE (embz x)
 | .mk k a s n ps l,h=>by
  unfold gE at h;obtain ⟨_,h1,h2,h3⟩:=h;unfold embz mdE;refine ⟨h2,q69 h1,?_⟩;have hl:(embs l).length=l.length:=q2o l;rcases h3 with ⟨rfl,_,rfl⟩ | ⟨_,⟨rfl,_,rfl⟩ | ⟨rfl,h,h'⟩ | ⟨rfl,h,h'⟩ | ⟨rfl,h,h'⟩ | ⟨rfl,_,h'⟩⟩
  ·exact .inl ⟨rfl,by unfold embs;rfl⟩
  ·exact .inr (.inl ⟨rfl,by unfold embs;rfl⟩)
  ·exact .inr (.inr (.inl ⟨rfl,h,hl.trans h'⟩))
  ·exact .inr (.inr (.inr (.inl ⟨rfl,h,hl.trans h'⟩)))
  ·exact .inr (.inr (.inr (.inr (.inl ⟨rfl,h,hl.trans h'⟩))))
  ·refine .inr (.inr (.inr (.inr (.inr ⟨rfl,fun e=>h' ?_⟩))));rw [e] at hl;exact List.length_eq_zero_iff.1 hl.symm
theorem q69{Q:Bs->Prop}:∀ {l:List Tr},gEs Q l->mdEs (embs l)
 | [],_=>by unfold embs mdEs;trivial
 | x :: l,h=>by
  unfold gEs at h;unfold embs mdEs;exact ⟨q68 h.1,q69 h.2⟩
end
def conB(z:Tz):Option (BitVec 32):=if (strB loN0 z).isNone=true then some (worB loN0 z) else none
def conL:Nat->List Tz->Option (BitVec 32)
 | _,[]=>some 0
 | 0,x :: _=>conB x
 | i+1,_ :: l=>conL i l
mutual
def canB(kn:Kn):Tz->Bool
 | .mk k _ s _ _ l=>(if k = 1 then (kn s).isSome else if k = 4 then (conL 1 l).isSome else if k = 5 then decide (s=sel) && decide (l.length = 3) else true) && canBs kn l
def canBs(kn:Kn):List Tz->Bool
 | []=>true
 | x :: l=>canB kn x && canBs kn l
end
def selB(m a b:BitVec 32):BitVec 32:=(a &&& m) ||| (b &&& ~~~m)
mutual
def wdB(kn:Kn):Tz->BitVec 32
 | .mk k _ s n _ l=>if k = 0 then BitVec.ofNat 32 n else if k = 1 then (kn s).getD 0 else if k = 2 then unB s (wdL kn 0 l) else if k = 3 then boB s (wdL kn 0 l) (wdL kn 1 l)
   else if k = 4 then shB s (wdL kn 0 l) ((conL 1 l).getD 0) else selB (wdL kn 0 l) (wdL kn 1 l) (wdL kn 2 l)
def wdL(kn:Kn):Nat->List Tz->BitVec 32
 | _,[]=>0
 | 0,x :: _=>wdB kn x
 | i+1,_ :: l=>wdL kn i l
end
mutual
def rdB(kn:Kn):Tz->BitVec 32
 | .mk k _ s n _ l=>if k = 0 then BitVec.ofNat 32 n else if k = 1 then (kn s).getD 0 else if k = 2 then unB s (rdL kn 0 l) else if k = 3 then boB s (rdL kn 0 l) (rdL kn 1 l)
   else if k = 4 then shB s (rdL kn 0 l) (rdL kn 1 l) else selB (rdL kn 0 l) (rdL kn 1 l) (rdL kn 2 l)
def rdL(kn:Kn):Nat->List Tz->BitVec 32
 | _,[]=>0
 | 0,x :: _=>rdB kn x
 | i+1,_ :: l=>rdL kn i l
end
theorem q3p(kn:Kn)(k a:Int)(s:Bs)(n:Nat)(ps:List Bs)(l:List Tz):canB kn (.mk k a s n ps l)=((if k = 1 then (kn s).isSome else if k = 4 then (conL 1 l).isSome else if k = 5 then decide (s=sel) && decide (l.length = 3) else true) && canBs kn l):=by conv=>lhs;unfold canB
theorem q8u(kn:Kn)(k a:Int)(s:Bs)(n:Nat)(ps:List Bs)(l:List Tz):wdB kn (.mk k a s n ps l)=if k = 0 then BitVec.ofNat 32 n else if k = 1 then (kn s).getD 0 else if k = 2 then unB s (wdL kn 0 l) else if k = 3 then boB s (wdL kn 0 l) (wdL kn 1 l)
   else if k = 4 then shB s (wdL kn 0 l) ((conL 1 l).getD 0) else selB (wdL kn 0 l) (wdL kn 1 l) (wdL kn 2 l):=by conv=>lhs;unfold wdB
theorem q8v(kn:Kn)(k a:Int)(s:Bs)(n:Nat)(ps:List Bs)(l:List Tz):rdB kn (.mk k a s n ps l)=if k = 0 then BitVec.ofNat 32 n else if k = 1 then (kn s).getD 0 else if k = 2 then unB s (rdL kn 0 l) else if k = 3 then boB s (rdL kn 0 l) (rdL kn 1 l)
   else if k = 4 then shB s (rdL kn 0 l) (rdL kn 1 l) else selB (rdL kn 0 l) (rdL kn 1 l) (rdL kn 2 l):=by conv=>lhs;unfold rdB
theorem q1W(kn:Kn)(x:Tz)(l:List Tz):wdL kn 0 (x :: l)=wdB kn x:=by conv=>lhs;unfold wdL
theorem q3W(kn:Kn)(i:Nat)(x:Tz)(l:List Tz):wdL kn (i+1) (x :: l)=wdL kn i l:=by conv=>lhs;unfold wdL
theorem q2a(kn:Kn)(x:Tz)(l:List Tz):rdL kn 0 (x :: l)=rdB kn x:=by conv=>lhs;unfold rdL
theorem q4E(kn:Kn)(i:Nat)(x:Tz)(l:List Tz):rdL kn (i+1) (x :: l)=rdL kn i l:=by conv=>lhs;unfold rdL
theorem q08(kn:Kn)(x:Tz)(l:List Tz):canBs kn (x :: l)=(canB kn x && canBs kn l):=by conv=>lhs;unfold canBs
theorem q2G{z:Tz}(h:strB loN0 z=none):conB z=some (worB loN0 z):=by unfold conB;rw [h];rfl
theorem q3X{z:Tz}{e:Int×Int×Bs}(h:strB loN0 z=some e):conB z=none:=by unfold conB;rw [h];rfl
theorem q1s{l:List Tz}(h:l.length = 2):∃ x y,l=[x,y]:=by
 match l,h with
 | [x,y],_=>exact ⟨x,y,rfl⟩
theorem q3Y{l:List Tz}(h:l.length = 1):∃ x,l=[x]:=by
 match l,h with
 | [x],_=>exact ⟨x,rfl⟩
theorem q5b{l:List Tz}(h:l.length = 3):∃ x y z,l=[x,y,z]:=by
 match l,h with
 | [x,y,z],_=>exact ⟨x,y,z,rfl⟩
theorem q0b:∀ {l:List Tz},mdEs l->∀ {i:Nat} {x:Tz},l[i]?=some x->mdE x
 | [],_,i,x,h=>Ve
 | y :: l,h,0,x,hx=>by
  obtain rfl:y=x:=Vh;unfold mdEs at h;exact h.1
 | y :: l,h,i+1,x,hx=>by
  unfold mdEs at h;exact q0b h.2 Vh
theorem q1g(kn:Kn):∀ (m:Nat) (z:Tz),SizeOf.sizeOf z < m->mdE z->strB loN0 z=none->worB loN0 z=rdB kn z
 | 0,z,h=>absurd h (Nat.not_lt_zero _)
 | m+1,.mk k a s n ps l,hm=>fun hd hs=>by
  obtain ⟨hf,hss⟩:=q3o hs;unfold mdE at hd;obtain ⟨_,hds,hc⟩:=hd;rw [q2F,q8v];have hsz:∀ x∈l,SizeOf.sizeOf x < m:=fun x hx=>by
   exact V1n
  rcases hc with ⟨rfl,rfl⟩ | ⟨rfl,rfl⟩ | ⟨rfl,_,hl⟩ | ⟨rfl,_,hl⟩ | ⟨rfl,_,hl⟩ | ⟨rfl,hl⟩
  ·rfl
  ·cases hf
  ·obtain ⟨x,rfl⟩:=q3Y hl;rw [if_neg V2,if_neg V2,if_pos rfl,if_neg V2,if_neg V2,if_pos rfl,q1I,q2a,q1g kn m x (hsz x V3) (q0b hds (i:=0) rfl) (q0a hss).1]
  ·obtain ⟨x,y,rfl⟩:=q1s hl;rw [if_neg V2,if_neg V2,if_neg V2,if_pos rfl,if_neg V2,if_neg V2,if_neg V2,if_pos rfl,q1I,q30,q2a,q4E,q2a,
    q1g kn m x (hsz x V3) (q0b hds (i:=0) rfl) (q0a hss).1,q1g kn m y (hsz y V3) (q0b hds (i:=1) rfl) (q0a (q0a hss).2).1]
  ·obtain ⟨x,y,rfl⟩:=q1s hl;rw [if_neg V2,if_neg V2,if_neg V2,if_neg V2,if_neg V2,if_neg V2,if_neg V2,if_neg V2,if_pos rfl,q1I,q30,q2a,q4E,q2a,
    q1g kn m x (hsz x V3) (q0b hds (i:=0) rfl) (q0a hss).1,q1g kn m y (hsz y V3) (q0b hds (i:=1) rfl) (q0a (q0a hss).2).1]
  ·cases hf
theorem q0Y(kn:Kn):∀ (m:Nat) (z:Tz),SizeOf.sizeOf z < m->mdE z->canB kn z=true->wdB kn z=rdB kn z
 | 0,z,h=>absurd h (Nat.not_lt_zero _)
 | m+1,.mk k a s n ps l,hm=>fun hd hs=>by
  rw [q3p,Bool.and_eq_true] at hs;obtain ⟨hk,hss⟩:=hs;unfold mdE at hd;obtain ⟨_,hds,hc⟩:=hd;rw [q8u,q8v];have hsz:∀ x∈l,SizeOf.sizeOf x < m:=fun x hx=>by
   exact V1n
  rcases hc with ⟨rfl,rfl⟩ | ⟨rfl,rfl⟩ | ⟨rfl,_,hl⟩ | ⟨rfl,_,hl⟩ | ⟨rfl,_,hl⟩ | ⟨rfl,hl⟩
  ·rfl
  ·rfl
  ·obtain ⟨x,rfl⟩:=q3Y hl;rw [q08,Bool.and_eq_true] at hss;rw [if_neg V2,if_neg V2,if_pos rfl,if_neg V2,if_neg V2,if_pos rfl,q1W,q2a,q0Y kn m x (hsz x V3) (q0b hds (i:=0) rfl) hss.1]
  ·obtain ⟨x,y,rfl⟩:=q1s hl;rw [q08,q08,Bool.and_eq_true,Bool.and_eq_true] at hss;rw [if_neg V2,if_neg V2,if_neg V2,if_pos rfl,if_neg V2,if_neg V2,if_neg V2,if_pos rfl,q1W,q3W,q1W,q2a,q4E,q2a,
    q0Y kn m x (hsz x V3) (q0b hds (i:=0) rfl) hss.1,q0Y kn m y (hsz y V3) (q0b hds (i:=1) rfl) hss.2.1]
  ·obtain ⟨x,y,rfl⟩:=q1s hl;rw [q08,q08,Bool.and_eq_true,Bool.and_eq_true] at hss;rw [if_neg V2,if_pos rfl] at hk;have hy:strB loN0 y=none:=by
    have hk':(conB y).isSome=true:=by unfold conL conL at hk;exact hk
    cases h:strB loN0 y with
    | none=>rfl
    | some e=>rw [q3X h] at hk';cases hk'
   have hcy:conL 1 [x,y]=some (rdB kn y):=by
    unfold conL conL;rw [q2G hy,q1g kn m y (hsz y V3) (q0b hds (i:=1) rfl) hy]
   rw [if_neg V2,if_neg V2,if_neg V2,if_neg V2,if_pos rfl,if_neg V2,if_neg V2,if_neg V2,if_neg V2,if_pos rfl,hcy,q1W,q2a,q4E,q2a,
    q0Y kn m x (hsz x V3) (q0b hds (i:=0) rfl) hss.1]
   rfl
  ·rw [if_neg V2,if_neg V2,if_pos rfl,Bool.and_eq_true] at hk;obtain ⟨x,y,z,rfl⟩:=q5b (of_decide_eq_true hk.2);rw [q08,q08,q08,Bool.and_eq_true,Bool.and_eq_true,Bool.and_eq_true] at hss;rw [if_neg V2,if_neg V2,if_neg V2,if_neg V2,if_neg V2,if_neg V2,if_neg V2,if_neg V2,if_neg V2,if_neg V2,
    q1W,q3W,q1W,q3W,q3W,q1W,q2a,q4E,q2a,q4E,q4E,q2a,
    q0Y kn m x (hsz x V3) (q0b hds (i:=0) rfl) hss.1,q0Y kn m y (hsz y V3) (q0b hds (i:=1) rfl) hss.2.1,q0Y kn m z (hsz z V3) (q0b hds (i:=2) rfl) hss.2.2.1]
theorem q2b(kn:Kn):∀ (m:Nat) (z:Tz),SizeOf.sizeOf z < m->mdE z->strB loN0 z=none->canB kn z=true
 | 0,z,h=>absurd h (Nat.not_lt_zero _)
 | m+1,.mk k a s n ps l,hm=>fun hd hs=>by
  obtain ⟨hf,hss⟩:=q3o hs;unfold mdE at hd;obtain ⟨_,hds,hc⟩:=hd;rw [q3p];have hsz:∀ x∈l,SizeOf.sizeOf x < m:=fun x hx=>by
   exact V1n
  rcases hc with ⟨rfl,rfl⟩ | ⟨rfl,rfl⟩ | ⟨rfl,_,hl⟩ | ⟨rfl,_,hl⟩ | ⟨rfl,_,hl⟩ | ⟨rfl,hl⟩
  ·rfl
  ·cases hf
  ·obtain ⟨x,rfl⟩:=q3Y hl;rw [if_neg V2,if_neg V2,if_neg V2,q08,q2b kn m x (hsz x V3) (q0b hds (i:=0) rfl) (q0a hss).1];unfold canBs;rfl
  ·obtain ⟨x,y,rfl⟩:=q1s hl;rw [if_neg V2,if_neg V2,if_neg V2,q08,q08,q2b kn m x (hsz x V3) (q0b hds (i:=0) rfl) (q0a hss).1,q2b kn m y (hsz y V3) (q0b hds (i:=1) rfl) (q0a (q0a hss).2).1];unfold canBs;rfl
  ·obtain ⟨x,y,rfl⟩:=q1s hl;have hy:=(q0a (q0a hss).2).1;have hcy:conL 1 [x,y]=some (worB loN0 y):=by unfold conL conL;exact q2G hy
   rw [if_neg V2,if_pos rfl,hcy,q08,q08,q2b kn m x (hsz x V3) (q0b hds (i:=0) rfl) (q0a hss).1,q2b kn m y (hsz y V3) (q0b hds (i:=1) rfl) hy];unfold canBs;rfl
  ·cases hf
end Ev
namespace Rt
open Go Go.RowKit
section
variable {F : Fence} {n : Nat} {P : Program}
def Ab{β:Type}(T:Nat)(J:β->World->Prop):Prop:=∀ s A B row,J s A->A.grownBy B row->(∀ r,row=some r->r=T)->J s B
def It{α:Type}(F:Fence)(n:Nat)(P:Program)(g:Nat)(lb:Array Value)(encs:α->Array Value)(Kp:World->World->Prop)(T:Nat)(S Sp:List α->Prop)(N:Nat)(w:World):Prop:=
 ∀ (l:Nat) (J Jx:List α->World->Prop) (W:World),Below w.heap.size w W->Ab T J->Ab T Jx ->
  (∀ pre x W1,J pre W1->pre.length < N->YieldAt F (n - 1) P l (encs x) W1 fun e W'=>
   (e = .returned (.bool true)/\J (pre ++ [x]) W'/\Kp W1 W')\/(e = .returned (.bool false)/\Jx (pre ++ [x]) W')) ->
  J [] W ->
  CallsIn F n P g (#[.func (.yield l) #[] #[]] ++ lb) W fun e W'=>(∃ v,e = .returned v)/\((∃ xs,S xs/\J xs W')\/(∃ pre,Sp pre/\Jx pre W'))
def OwnT{β:Type}(T B:Nat)(I:β->World->Prop):Prop:=
 ∀ s W W' row,I s W->W.grownBy W' row->(∀ r,row=some r->r=T\/(B<=r/\∃ o:Obj,W.heap[r]?=some o/\o.isCells=false))->I s W'
def post{α:Type}(Kp:World->World->Prop)(I Ix:List α->World->Prop)(xs:List α)(W:World):Exit->Act->World->Prop
 | .normal,_,W'=>KeepsOthers W W'/\Kp W W'/\I xs W'
 | .ret,_,W'=>KeepsOthers W W'/\Ix xs W'
 | .exit _,_,_=>False
 | .goto _,_,_=>False
 | .panic _,_,_=>False
 | .outgrown,_,_=>False
theorem q31{β:Type}{T B:Nat}{I:β->World->Prop}(h:OwnT T B I){s:β}{W:World}(o:Obj)(hs:I s W):I s (W.alloc o):=
 h s W _ none hs (World.grownBy_alloc W o none) (fun r e=>VH)
theorem q1X{β:Type}{T B:Nat}{I:β->World->Prop}(h:OwnT T B I){s:β}{W:World}{l:Nat}{o:Obj}(o':Obj)(hs:I s W)(hB:B<=l)(hl:W.heap[l]?=some o)(ho:o.isCells=false):I s (W.putObj l o'):=
 h s W _ (some l) hs (grownBy_putObj' W l o') (fun r e=>by cases e;exact .inr ⟨hB,o,hl,ho⟩)
theorem far{A B:World}{row:Option Nat}{T r:Nat}{o:Obj}(hg:A.grownBy B row)(hr:∀ r,row=some r->r=T)(hne:r≠T)(h:A.heap[r]?=some o):B.heap[r]?=some o:=
 (hg.block r (Array.getElem?_eq_some_iff.1 h).1 (fun e=>hne (hr r e.symm))).trans h
theorem range{α:Type}{g:Operand}{ps:Array Tmp}{assign body:Code}{Q:Exit->Act->World->Prop}{a:Act}{w:World}
  (hro:F.round=none) (h1:1<=n) {gf:Nat} {lb:Array Value} (hg:a.eval g = .func (.func gf) #[] lb) (hFg:F.fn gf) (eg:∀ args w,(callFunc gf args).run P w = .ok (.enter gf args) w)
  {encs:α->Array Value} {Kp:World->World->Prop} {T:Nat} {S Sp:List α->Prop} {N:Nat} {w0:World} (hseq:It F (n - 1) P gf lb encs Kp T S Sp N w0) (hT:T < w.heap.size)
  (hKt:∀ {A B C:World},Kp A B->Kp B C->Kp A C) (hKb:∀ (W:World) (l:Nat) (o o':Obj),w.heap.size<=l->W.heap[l]?=some o->o.isCells=false->Kp W (W.putObj l o')) (hb0:Below w0.heap.size w0 w) (hps:∀ x,(encs x).size=ps.size)
  (I Ix:List α->World->Prop) (hI:OwnT T w.heap.size I) (hIx:OwnT T w.heap.size Ix) (h0:I [] w) (a₁:α->Act)
  (hassign:∀ (l:Nat) (x:α) (W:World) (K:Act->World->Prop),K (a₁ x) W ->
   assign.wpIn (F.inRound l) (n - 1 - 1) P (Exit.then K (fun _ _ _=>False)) { tmps:=(ps.zip (encs x)).foldl (fun t (p,v)=>t.setIfInBounds p v) a.tmps,defers:=[] } W)
  (hbody:∀ (l:Nat) (pre:List α) (x:α) (W:World),I pre W->pre.length < N->body.wpIn (F.inRound l) (n - 1 - 1) P (post Kp I Ix (pre ++ [x]) W) (a₁ x) W)
  (hdone:∀ (D:Nat) (xs:List α) (W:World),w.heap.size<=D->S xs->I xs W->W.heap[D]?=some (.deferred (some []))->Q .normal { a with defers:={ target:=.collected D,args:=#[] } :: a.defers } W)
  (hstop:∀ (D:Nat) (pre:List α) (W:World),w.heap.size<=D->Sp pre->Ix pre W->W.heap[D]?=some (.deferred (some []))->Code.ret.wpIn F n P Q { a with defers:={ target:=.collected D,args:=#[] } :: a.defers } W) :
  (Code.rangeFunc g ps assign body).wpIn F n P Q a w:=by
 refine wpIn_rangeFunc fun fn hfn=>?_
 rw [hro];obtain ⟨rec,hrec⟩:∃ rec:LoopState->Option Code->Loop,rec=fun st pe=>{ state:=st,pending:=pe,fn,tmps:=a.tmps,params:=ps,assign,body,defers:=w.heap.size }:=⟨_,rfl⟩
 obtain ⟨L,hL⟩:∃ L,w.heap.size+1=L:=⟨_,rfl⟩;obtain ⟨W1,hW1⟩:∃ W1,(w.alloc (.deferred (some []))).alloc (.loop (rec .ready none))=W1:=⟨_,rfl⟩;have hL1:W1.heap[L]?=some (.loop (rec .ready none)):=by
  rw [<-hW1,<-hL];have:=World.alloc_heap_new (w.alloc (.deferred (some []))) (.loop (rec .ready none));rwa [World.size_alloc] at this
 have hK1:W1.heap[w.heap.size]?=some (.deferred (some [])):=by
  rw [<-hW1];exact (Below.heap_alloc _ _ _ V3).trans (World.alloc_heap_new w _)
 have hI1:I [] W1:=by rw [<-hW1];exact q31 hI _ (q31 hI _ h0)
 have hb1:Below w0.heap.size w0 W1:=by
  rw [<-hW1];exact hb0.trans ((((Below.refl _ w).alloc (Nat.le_refl _) _).alloc V3 _).mono hb0.size)
 have hLT:L≠T:=V0;have hDT:w.heap.size≠T:=V0;have hLD:L≠w.heap.size:=V0;have hBL:w.heap.size<=L:=V0;refine ⟨L,[{ target:=.collected w.heap.size,args:=#[] }],W1,{ target:=.fn (.func gf) lb,args:=#[.func (.yield L) #[] #[]] },W1,gf,#[.func (.yield L) #[] #[]] ++ lb,W1,?_,?_,?_,?_,fun _=>h1,?_⟩
 ·rw [<-hW1,hrec,<-hL];exact run_enterLoop_outer _ _ _ _ _
 ·simp only [resolve,hg];simp [go_sem]
 ·intro f' hf';simp [Target.leads] at hf';subst hf';exact hFg
 ·simp [invoke,go_sem,eg]
 ·have hrow:∀ {A:World} {row:Option Nat},(∀ r,row=some r->r=T)->(∀ r,row=some r->r=T\/(w.heap.size<=r/\∃ o:Obj,A.heap[r]?=some o/\o.isCells=false)):=fun hr r e=>.inl (hr r e)
  refine (hseq L
   (fun pre W=>I pre W/\W.heap[L]?=some (.loop (rec .ready none))/\W.heap[w.heap.size]?=some (.deferred (some [])))
   (fun pre W=>Ix pre W/\W.heap[L]?=some (.loop (rec .done (some .ret)))/\W.heap[w.heap.size]?=some (.deferred (some []))) W1 hb1
   (fun s A B row hs hg' hr=>⟨hI s A B row hs.1 hg' (hrow hr),far hg' hr hLT hs.2.1,far hg' hr hDT hs.2.2⟩)
   (fun s A B row hs hg' hr=>⟨hIx s A B row hs.1 hg' (hrow hr),far hg' hr hLT hs.2.1,far hg' hr hDT hs.2.2⟩) ?_ ⟨hI1,hL1,hK1⟩).mono ?_
  ·rintro pre x W ⟨hi,hl,hk⟩ hlen;have hlt:L < W.heap.size:=(Array.getElem?_eq_some_iff.1 hl).1;have hy:=run_yield (P:=P) (args:=encs x) hl (by rw [hrec];exact hps x);rw [hrec] at hy;refine ⟨fn,_,assign,body,hy,roundIn_of_wpIn hfn (hassign _ x W _ ⟨_,run_beginRound hl (by rw [hrec]),?_⟩)⟩;clear hy;obtain ⟨W2,hW2⟩:∃ W2,W.putObj L (.loop { rec .ready none with state:=.busy })=W2:=⟨_,rfl⟩;have hl2:W2.heap[L]?=some (.loop { rec .ready none with state:=.busy }):=by rw [<-hW2];exact World.putObj_heap_same hlt
   have hk2:W2.heap[w.heap.size]?=some (.deferred (some [])):=by rw [<-hW2];exact (World.putObj_heap_other (Ne.symm hLD)).trans hk
   have hi2:I pre W2:=by rw [<-hW2];exact q1X hI _ hi hBL hl rfl
   have hp2:Kp W W2:=by rw [<-hW2];exact hKb _ _ _ _ hBL hl rfl
   rw [hW2];refine wpIn_mono (hbody _ pre x W2 hi2 hlen) ?_;have fin:∀ (jump:Option Code) (W3:World),KeepsOthers W2 W3->∃ W4,W4=W3.putObj L (.loop (rec (if jump.isNone then .ready else .done) jump))/\W3.heap[L]?=some (.loop { rec .ready none with state:=.busy }) /\
     (Instr.endRound L jump).run P W3 = .ok (.bool jump.isNone) W4/\W4.heap[L]?=some (.loop (rec (if jump.isNone then .ready else .done) jump))/\W4.heap[w.heap.size]?=some (.deferred (some [])):=fun jump W3 hk3=>by
    have hl3:=hk3.same _ _ hl2 rfl;have hr3:=run_endRound (P:=P) jump hl3;refine ⟨_,rfl,hl3,?_,World.putObj_heap_same (Array.getElem?_eq_some_iff.1 hl3).1,(World.putObj_heap_other (Ne.symm hLD)).trans (hk3.same _ _ hk2 rfl)⟩;rw [hrec] at hr3 ⊢;exact hr3
   rintro e a3 W3 hp;cases e with
   | normal=>
    obtain ⟨hk3,hkp3,hi3⟩:=hp;obtain ⟨W4,e4,hl3,hr,hl4,hk4⟩:=fin none W3 hk3;exact ⟨_,_,hr,.inl ⟨rfl,⟨by rw [e4];exact q1X hI _ hi3 hBL hl3 rfl,hl4,hk4⟩,hKt (hKt hp2 hkp3) (by rw [e4];exact hKb _ _ _ _ hBL hl3 rfl)⟩⟩
   | ret=>
    obtain ⟨hk3,hi3⟩:=hp;obtain ⟨W4,e4,hl3,hr,hl4,hk4⟩:=fin (some .ret) W3 hk3;exact ⟨_,_,hr,.inr ⟨rfl,by rw [e4];exact q1X hIx _ hi3 hBL hl3 rfl,hl4,hk4⟩⟩
   | exit id=>exact hp.elim
   | goto t=>exact hp.elim
   | panic ch=>exact hp.elim
   | outgrown=>exact hp.elim
  ·rintro e W2 ⟨⟨v,rfl⟩,(⟨xs,hS,hi,hl,hk⟩ | ⟨pre,hSp,hi,hl,hk⟩)⟩
   ·exact ⟨none,_,V3x,hdone _ xs _ (Nat.le_refl _) hS (q1X hI _ hi hBL hl rfl) ((World.putObj_heap_other (Ne.symm hLD)).trans hk)⟩
   ·exact ⟨some .ret,_,V3x,hstop _ pre _ (Nat.le_refl _) hSp (q1X hIx _ hi hBL hl rfl) ((World.putObj_heap_other (Ne.symm hLD)).trans hk)⟩
end
end Rt
namespace Lx
open Go Go.ChangeShapes Go.WideShapes Go.ChangeAt Go.RowKit Args
def nameB(s:Bs):Bool:=match s with
 | []=>false
 | c :: r=>decide ((c :: r).length<=32) && letB c && !wordB (c :: r) && (c :: r).all (onB true)
theorem q32(s:ByteArray)(h:0 < s.size):s.data.toList=s[0] :: s.data.toList.drop 1:=by
 have:=drop_at s 0 h
 rwa [List.drop_zero] at this
theorem pletter(c:UInt8)(w:World):Calls Tryz.prog 179 #[.int .u8 ((c.toNat:Nat):Int)] w fun e w'=>e = .returned (.bool (letB c))/\w=w':=by
 have hb:letB c=((decide (65<=c.toNat) && decide (c.toNat<=90)) || (decide (97<=c.toNat) && decide (c.toNat<=122))):=rfl;generalize letB c=b at *;generalize c.toNat=k at *;by_cases h1:65<=k
 ·by_cases h2:k<=90
  ·have HB:=Hi (show b=true from V11);have i1:decide ((65:Int)<=(k:Int))=true:=V4;have i2:decide ((k:Int)<=90)=true:=V4;clear hb h1 h2;exact V0j
  ·by_cases h3:97<=k
   ·by_cases h4:k<=122
    ·have HB:=Hi (show b=true by rw [hb];simp [h3,h4]);have i1:decide ((65:Int)<=(k:Int))=true:=V4;have i2:decide ((k:Int)<=90)=false:=V4;have i3:decide ((97:Int)<=(k:Int))=true:=V4;have i4:decide ((k:Int)<=122)=true:=V4;clear hb h1 h2 h3 h4;exact V0j
    ·have HB:=Hi (show b=false from Vt);have i1:decide ((65:Int)<=(k:Int))=true:=V4;have i2:decide ((k:Int)<=90)=false:=V4;have i3:decide ((97:Int)<=(k:Int))=true:=V4;have i4:decide ((k:Int)<=122)=false:=V4;clear hb h1 h2 h3 h4;exact V0j
   ·have HB:=Hi (show b=false from Vt);have i1:decide ((65:Int)<=(k:Int))=true:=V4;have i2:decide ((k:Int)<=90)=false:=V4;have i3:decide ((97:Int)<=(k:Int))=false:=V4;clear hb h1 h2 h3;exact V0j
 ·have HB:=Hi (show b=false from Vt);have i1:decide ((65:Int)<=(k:Int))=false:=V4;have i3:decide ((97:Int)<=(k:Int))=false:=V4;clear hb h1;exact V0j
theorem pdigit(c:UInt8)(w:World):Calls Tryz.prog 183 #[.int .u8 ((c.toNat:Nat):Int)] w fun e w'=>e = .returned (.bool (numB c))/\w=w':=by
 have hb:numB c=(decide (48<=c.toNat) && decide (c.toNat<=57)):=rfl;generalize numB c=b at *;generalize c.toNat=k at *;by_cases h1:48<=k
 ·by_cases h2:k<=57
  ·have HB:=Hi (show b=true from V11);have i1:decide ((48:Int)<=(k:Int))=true:=V4;have i2:decide ((k:Int)<=57)=true:=V4;clear hb h1 h2;exact V1T
  ·have HB:=Hi (show b=false from Vt);have i1:decide ((48:Int)<=(k:Int))=true:=V4;have i2:decide ((k:Int)<=57)=false:=V4;clear hb h1 h2;exact V1T
 ·have HB:=Hi (show b=false from Vt);have i1:decide ((48:Int)<=(k:Int))=false:=V4;clear hb h1;exact V1T
theorem pinNumber(c:UInt8)(w:World):Calls Tryz.prog 184 #[.int .u8 ((c.toNat:Nat):Int)] w fun e w'=>e = .returned (.bool (onB false c))/\w=w':=by
 have HL:=Hi (pletter c);have HD:=Hi (pdigit c);have hb:onB false c=(letB c || numB c):=by unfold onB;simp
 rw [hb];cases hl:letB c with
 | true=>
  rw [hl] at HL;clear hb hl;go_enter Tryz.func184,Tryz.ntmps184;go_wp2_with fail
  refine (HL.out _).mono ?_;exact VU
 | false=>
  rw [hl] at HL;generalize numB c=b at *;clear hb hl;go_enter Tryz.func184,Tryz.ntmps184;go_wp2_with fail
  refine (HL.out _).mono ?_;rintro e w' ⟨rfl,rfl⟩;go_wp2_with fail
  refine (HD.out _).mono ?_;exact VU
theorem pinName(c:UInt8)(w:World):Calls Tryz.prog 182 #[.int .u8 ((c.toNat:Nat):Int)] w fun e w'=>e = .returned (.bool (onB true c))/\w=w':=by
 have HL:=Hi (pinNumber c);have hb:onB true c=(onB false c || decide (c.toNat = 95)):=by
  unfold onB;have:(c==95)=decide (c.toNat = 95):=by
   by_cases h:c.toNat = 95
   ·have:c = 95:=by rw [q4x h];rfl
    subst this;decide
   ·have:c≠95:=q3Q h V2;simp [h,this]
  simp [this]
 rw [hb];generalize onB false c=x at *;cases x with
 | true=>
  clear hb;generalize c.toNat=k at *;go_enter Tryz.func182,Tryz.ntmps182;go_wp2_with fail
  refine (HL.out _).mono ?_;exact VU
 | false=>
  clear hb;generalize c.toNat=k at *;by_cases hk:k = 95
  ·have HB:=Hi (show (false || decide (k = 95))=true by simp [hk]);have i1:((k:Int)==95)=true:=V4;exact V3b
  ·have HB:=Hi (show (false || decide (k = 95))=false by simp [hk]);have i1:((k:Int)==95)=false:=V4;exact V3b
theorem prunT(s:ByteArray)(hs:s.size<=140737488351232)(w:World):Calls Tryz.prog 181 #[.string s,.func (.func 182) #[] #[]] w fun e w'=>e = .returned (.string ⟨(s.data.toList.take (runL true s.data.toList)).toArray⟩)/\w=w':=by
 have HC:=Hi pinName;obtain ⟨R,hR⟩:∃ R,runL true s.data.toList=R:=⟨_,rfl⟩;have hRl:R<=s.size:=by have:=q1p true s.data.toList;rw [hR] at this;simpa using this
 have hex:(⟨(s.data.toList.take R).toArray⟩:ByteArray)=s.extract 0 R:=by rw [Lib.extract_eq];simp
 rw [hR,hex];have HR:=Hi hR;clear hR hex;go_enter Tryz.func181,Tryz.ntmps181;go_wp2_with fail
 go_loop [5] (fun vi=>∃ k:Nat,k<=s.size/\vi = .int .i64 k/\Hid (k+runL true (s.data.toList.drop k)=R)) (fun vi=>s.size - (intOf vi).toNat)
 case atStart=>exact ⟨0,V0,rfl,Hi (by rw [List.drop_zero,HR.out];omega)⟩
 case round=>
  obtain ⟨k,hk,rfl,HQ⟩:=hrel;by_cases hlt:k < s.size
  ·have hd:=drop_at s k hlt;have hq:=HQ.out;rw [hd,q0g] at hq;have hc:=HC.out s[k];cases ho:onB true s[k] with
   | true=>
    rw [ho,if_pos rfl] at hq;rw [ho] at hc;have HK:=Hi hc;have HN:=Hi (show k+1+runL true (s.data.toList.drop (k+1))=R from V0);exact V3n
   | false=>
    exact V2w
  ·have hq:=HQ.out;rw [q0L s k V0] at hq;have HN:=Hi (show R=k by have:runL true [] = 0:=rfl;omega);clear hq HQ;exact V2L
theorem prunF(s:ByteArray)(hs:s.size<=140737488351232)(w:World):Calls Tryz.prog 181 #[.string s,.func (.func 184) #[] #[]] w fun e w'=>e = .returned (.string ⟨(s.data.toList.take (runL false s.data.toList)).toArray⟩)/\w=w':=by
 have HC:=Hi pinNumber;obtain ⟨R,hR⟩:∃ R,runL false s.data.toList=R:=⟨_,rfl⟩;have hRl:R<=s.size:=by have:=q1p false s.data.toList;rw [hR] at this;simpa using this
 have hex:(⟨(s.data.toList.take R).toArray⟩:ByteArray)=s.extract 0 R:=by rw [Lib.extract_eq];simp
 rw [hR,hex];have HR:=Hi hR;clear hR hex;go_enter Tryz.func181,Tryz.ntmps181;go_wp2_with fail
 go_loop [5] (fun vi=>∃ k:Nat,k<=s.size/\vi = .int .i64 k/\Hid (k+runL false (s.data.toList.drop k)=R)) (fun vi=>s.size - (intOf vi).toNat)
 case atStart=>exact ⟨0,V0,rfl,Hi (by rw [List.drop_zero,HR.out];omega)⟩
 case round=>
  obtain ⟨k,hk,rfl,HQ⟩:=hrel;by_cases hlt:k < s.size
  ·have hd:=drop_at s k hlt;have hq:=HQ.out;rw [hd,q0g] at hq;have hc:=HC.out s[k];cases ho:onB false s[k] with
   | true=>
    rw [ho,if_pos rfl] at hq;rw [ho] at hc;have HK:=Hi hc;have HN:=Hi (show k+1+runL false (s.data.toList.drop (k+1))=R from V0);exact V3n
   | false=>
    exact V2w
  ·have hq:=HQ.out;rw [q0L s k V0] at hq;have HN:=Hi (show R=k by have:runL false [] = 0:=rfl;omega);clear hq HQ;exact V2L
theorem pword(s:ByteArray)(w:World):Calls Tryz.prog 201 #[.string s] w fun e w'=>e = .returned (.bool (wordB s.data.toList))/\w=w':=by
 cases h0:(s.toList==([115,101,99,114,101,116]:Bs)) with
 | true=>
  have HB:=Hi (show wordB s.data.toList=true by rw [<-ByteArray.toList_eq,eq_of_beq h0];decide);exact Vz
 | false=>
  cases h1:(s.toList==([112,117,98,108,105,99]:Bs)) with
  | true=>
   have HB:=Hi (show wordB s.data.toList=true by rw [<-ByteArray.toList_eq,eq_of_beq h1];decide);exact Vz
  | false=>
   cases h2:(s.toList==([111,117,116]:Bs)) with
   | true=>
    have HB:=Hi (show wordB s.data.toList=true by rw [<-ByteArray.toList_eq,eq_of_beq h2];decide);exact Vz
   | false=>
    cases h3:(s.toList==([115,104,111,119]:Bs)) with
    | true=>
     have HB:=Hi (show wordB s.data.toList=true by rw [<-ByteArray.toList_eq,eq_of_beq h3];decide);exact Vz
    | false=>
     cases h4:(s.toList==([102,111,114]:Bs)) with
     | true=>
      have HB:=Hi (show wordB s.data.toList=true by rw [<-ByteArray.toList_eq,eq_of_beq h4];decide);exact Vz
     | false=>
      cases h5:(s.toList==([105,110]:Bs)) with
      | true=>
       have HB:=Hi (show wordB s.data.toList=true by rw [<-ByteArray.toList_eq,eq_of_beq h5];decide);exact Vz
      | false=>
       cases h6:(s.toList==([102,110]:Bs)) with
       | true=>
        have HB:=Hi (show wordB s.data.toList=true by rw [<-ByteArray.toList_eq,eq_of_beq h6];decide);exact Vz
       | false=>
        have HB:=Hi (show wordB s.data.toList=false by
         have hx:∀ l:Bs,(s.toList==l)=false->¬ s.data.toList=l:=fun l h e=>by
          rw [beq_eq_false_iff_ne] at h;exact h (by rw [<-e,ByteArray.toList_eq])
         have g0:=hx _ h0;have g1:=hx _ h1;have g2:=hx _ h2;have g3:=hx _ h3;have g4:=hx _ h4;have g5:=hx _ h5;have g6:=hx _ h6;unfold wordB words7;rw [List.contains_eq_mem,decide_eq_false_iff_not];simp only [List.mem_cons,List.not_mem_nil,or_false];rintro (h | h | h | h | h | h | h)
         ·exact g0 h
         ·exact g1 h
         ·exact g2 h
         ·exact g3 h
         ·exact g4 h
         ·exact g5 h
         ·exact g6 h)
        exact Vz
end Lx
end Go.Proofs.YtcgibpdjfgjldaaGreatDoor
