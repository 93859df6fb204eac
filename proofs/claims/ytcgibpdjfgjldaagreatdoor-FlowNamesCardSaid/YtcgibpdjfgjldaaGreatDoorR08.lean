/- DERIVED. NmUs, NmRu, ShMade, NmRef, NmQb. By an AI agent. -/
import Derived.Test.YtcgibpdjfgjldaaGreatDoorR07
import Derived.Test.YtcgibpdjfgjldaaGreatDoorR02
import Derived.Carry
set_option maxRecDepth 100000
set_option maxHeartbeats 4000000
set_option linter.unusedVariables false
set_option linter.unusedSimpArgs false
namespace Go.Proofs.YtcgibpdjfgjldaaGreatDoor
namespace Nm
open Go Go.ChangeShapes Go.WideShapes Go.ChangeAt Go.RowKit Lx Args Pa Sh
structure UsJ(lo bl bs:Nat)(N:Nat->Prop)(w:World)(st:List Bs×Nat):Prop where
 ex:∃ v sb,Aa w bl 24 #[v]/\w.ownsRow lo 9 1 v st.1.length (st.1.map ai)/\Aa w bs 107 #[.map (some sb)]/\MpS w sb st.2 (fun t=>st.1.contains t)/\N bl/\N sb/\(∀ b,v.ownBlock=some b->N b) /\
  v.ownBlock≠some bl/\v.ownBlock≠some bs/\v.ownBlock≠some sb/\sb≠bl/\sb≠bs
 ne:bl≠bs/\lo<=w.heap.size
 few:st.1.length<=st.2
theorem UsJ.far{lo bl bs:Nat}{N X:Nat->Prop}{w w':World}{st:List Bs×Nat}(h:UsJ lo bl bs N w st)(hu:Upd X w w')(hX:∀ b,X b->w.heap.size<=b):UsJ lo bl bs N w' st:=by
 obtain ⟨⟨v,sb,h1,h2,h3,h4,h5⟩,hn,hf⟩:=h;refine ⟨⟨v,sb,h1.upd hu fun h=>by have:=hX _ h;have:=h1.lt;omega,ae h2 hu fun b hb h=>by have:=hX _ h;have:=av h2 b hb;omega,h3.upd hu fun h=>by have:=hX _ h;have:=h3.lt;omega,h4.upd hu fun h=>by have:=hX _ h;have:=h4.lt;omega,h5⟩,⟨hn.1,Nat.le_trans hn.2 hu.size⟩,hf⟩
theorem UsJ.mono{lo bl bs:Nat}{N N':Nat->Prop}{w:World}{st:List Bs×Nat}(h:UsJ lo bl bs N w st)(hN:∀ b,N b->b < w.heap.size->N' b):UsJ lo bl bs N' w st:=by
 obtain ⟨⟨v,sb,h1,h2,h3,h4,h5,h6,h7,h8⟩,hn,hf⟩:=h;exact ⟨⟨v,sb,h1,h2,h3,h4,hN _ h5 h1.lt,hN _ h6 h4.lt,fun b hb=>hN _ (h7 b hb) (av h2 b hb).2,h8⟩,hn,hf⟩
theorem q51(A:Option Addr)(c:Nat)(l:List Bs)(s:ByteArray)(w:World)(hA:Af w A (strs l))(hl:l.length<=maxLen) :
  Calls Tryz.prog 52 #[.slice A l.length c,.string s] w fun e w'=>e = .returned (.bool (l.contains s.data.toList))/\w=w':=by
 have hlm:l.length<=9223372036854775807:=hl;have hin:=inL l s.data.toList;have HA:=Hi hA;have HIN:=Hi hin;clear hA hin hl;generalize hb:l.contains s.data.toList=b at *;have HB:=Hi hb;clear hb;go_enter Tryz.func52,Tryz.ntmps52;go_wp2_with fail
 go_loop [5] (fun vi=>∃ k:Nat,k<=l.length/\vi = .int .i64 k/\Hid (∀ j,j < k->l[j]?≠some s.data.toList)) (fun vi=>l.length - (intOf vi).toNat)
 case atStart=>exact ⟨0,V0,rfl,Hi fun j hj=>absurd hj V0⟩
 case round=>
  exact V2e
end Nm
namespace Pa
open Lx
mutual
def gE(Q:Bs->Prop):Tr->Prop
 | .mk k _ s n ps l=>ps=[]/\gEs Q l/\n < 4294967296/\((k = 0/\s=[]/\l=[])\/(n = 0/\((k = 1/\Q s/\l=[])\/(k = 2/\(s=[126]\/s=[45])/\l.length = 1) \/
   (k = 3/\(s=[124]\/s=[94]\/s=[38]\/s=[43]\/s=[45])/\l.length = 2)\/(k = 4/\(s=[60,60]\/s=[62,62]\/s=[60,60,60])/\l.length = 2)\/(k = 5/\Q s/\l≠[]))))
def gEs(Q:Bs->Prop):List Tr->Prop
 | []=>True
 | x :: l=>gE Q x/\gEs Q l
end
mutual
def gS(Q:Bs->Prop):Tr->Prop
 | .mk k _ s n ps l=>n = 0/\ps=[]/\Q s/\((k = 10/\l.length = 1/\gA Q 1 l)\/(k = 11/\2<=l.length/\gA Q 2 l))
def gA(Q:Bs->Prop):Nat->List Tr->Prop
 | _,[]=>True
 | 0,x :: l=>gS Q x/\gA Q 0 l
 | i+1,x :: l=>gE Q x/\gA Q i l
end
def gT(Q:Bs->Prop):Tr->Prop
 | .mk k a s n ps l=>gS Q (.mk k a s n ps l)\/(n = 0/\(((k = 6\/k = 7)/\s=[]/\l=[]/\ps≠[]/\(∀ p∈ps,Q p))\/((k = 8\/k = 9)/\ps=[]/\Q s/\∃ x,l=[x]/\gE Q x) \/
   (k = 12/\ps≠[]/\(∀ p∈ps,Q p)/\Q s/\∃ x,l=[x]/\gE Q x)))
theorem gE_put{Q:Bs->Prop}{x:Tr}(h:gE Q x)(a:Nat):gE Q (x.put a):=by
 cases x;unfold Tr.put gE;unfold gE at h;exact h
def TQ(Q:Bs->Prop)(l:List Tk):Prop:=∀ t∈l,t.k = 1->Q t.s
theorem TQ.tail{Q:Bs->Prop}{t:Tk}{l:List Tk}(h:TQ Q (t :: l)):TQ Q l:=fun u hu=>h u (List.mem_cons_of_mem _ hu)
theorem TQ.hd{Q:Bs->Prop}{t:Tk}{l:List Tk}(h:TQ Q (t :: l))(hk:t.k = 1):Q t.s:=h t (List.mem_cons_self ..) hk
def Gr(Q:Bs->Prop)(P:List Tr->Prop):OO->Prop
 | some (.ok xs r)=>P xs/\TQ Q r
 | _=>True
section
variable {Q : Bs -> Prop} {P P' : List Tr -> Prop}
theorem q1i(l:List Tk)(e:Nat):Gr Q P (wrong l e):=trivial
theorem q0W{c:Prop}[Decidable c]{o p:OO}(h1:c->Gr Q P o)(h2:¬ c->Gr Q P p):Gr Q P (if c then o else p):=by
 by_cases h:c
 ·rw [if_pos h];exact h1 h
 ·rw [if_neg h];exact h2 h
theorem q19{o:OO}{f:List Tr->List Tk->OO}(h:Gr Q P o)(hf:∀ xs r,P xs->TQ Q r->Gr Q P' (f xs r)):Gr Q P' (bnd o f):=by
 rcases o with _ | ⟨xs,r⟩ | ⟨a,e⟩
 ·trivial
 ·exact hf xs r h.1 h.2
 ·trivial
theorem gr_ok{xs:List Tr}{r:List Tk}(h:P xs)(hr:TQ Q r):Gr Q P (some (.ok xs r)):=⟨h,hr⟩
theorem q2c{o:OO}(h:Gr Q P o)(hP:∀ xs,P xs->P' xs):Gr Q P' o:=by
 rcases o with _ | ⟨xs,r⟩ | ⟨a,e⟩
 ·trivial
 ·exact ⟨hP xs h.1,h.2⟩
 ·trivial
theorem q0D{b:Bs}{l:List Tk}{f:List Tk->OO}(h:TQ Q l)(hf:∀ r,TQ Q r->Gr Q P (f r)):Gr Q P (must b l f):=by
 cases l with
 | nil=>trivial
 | cons t r=>exact q0W (fun _=>hf r h.tail) fun _=>q1i _ _
theorem q2d{l:List Tk}{f:Bs->List Tk->OO}(h:TQ Q l)(hf:∀ s r,Q s->TQ Q r->Gr Q P (f s r)):Gr Q P (bE l f):=by
 cases l with
 | nil=>trivial
 | cons t r=>exact q0W (fun hk=>hf t.s r (h.hd hk) h.tail) fun _=>q1i _ _
theorem q2u{f:List Bs->List Tk->OO}(hf:∀ ps r,ps≠[]->(∀ p∈ps,Q p)->TQ Q r->Gr Q P (f ps r)):∀ (ps:List Bs) (l:List Tk),(∀ p∈ps,Q p)->TQ Q l->Gr Q P (aC ps l f)
 | _,[],_,_=>trivial
 | ps,[t],hp,h=>by
  unfold aC;exact q0W (fun hk=>hf _ _ V3 (fun p hm=>by
   rcases List.mem_append.1 hm with hm | hm
   ·exact hp p hm
   ·rw [List.mem_singleton.1 hm];exact h.hd hk) h.tail) fun _=>q1i _ _
 | ps,t :: u :: r,hp,h=>by
  unfold aC;refine q0W (fun hk=>?_) fun _=>q1i _ _
  have hq:∀ p∈ps ++ [t.s],Q p:=fun p hm=>by
   rcases List.mem_append.1 hm with hm | hm
   ·exact hp p hm
   ·rw [List.mem_singleton.1 hm];exact h.hd hk
  exact q0W (fun _=>q2u hf _ r hq h.tail.tail) fun _=>hf _ _ V3 hq h.tail
end
def preM(Q:Bs->Prop):NT->Prop
 | .more _ x=>gE Q x
 | _=>True
def gN(Q:Bs->Prop):NT->List Tr->Prop
 | .aI _,xs=>∃ x,xs=[x]/\gE Q x
 | .more _ _,xs=>∃ x,xs=[x]/\gE Q x
 | .args l,xs=>∃ ys,xs=l ++ ys/\gEs Q ys
 | .fin k a s ps,xs=>∃ x,xs=[.mk k a s 0 ps [x]]/\gE Q x
 | .inner,xs=>∃ x,xs=[x]/\gS Q x
 | .aM l,xs=>∃ ys,xs=l ++ ys/\gA Q 0 ys
 | .stmt,xs=>∃ x,xs=[x]/\gT Q x
 | .stmts l,xs=>∃ ys,xs=l ++ ys/\∀ y∈ys,gT Q y
theorem on_bin{Q:Bs->Prop}{n:Nat}{t:Tk}{x y:Tr}(h:onS n t=true)(hx:gE Q x)(hy:gE Q y)(a:Nat):gE Q (.mk (if n = 3 then 4 else 3) a t.s 0 [] [x,y]):=by
 unfold onS at h;simp only [Bool.and_eq_true,List.contains_iff_mem] at h;have hs:=h.2;unfold gE;refine ⟨rfl,⟨hx,hy,trivial⟩,V2,.inr ⟨rfl,?_⟩⟩;rcases n with _ | _ | _ | _ | n
 ·simp only [sOf,List.mem_singleton] at hs;exact .inr (.inr (.inl ⟨rfl,.inl hs,rfl⟩))
 ·simp only [sOf,List.mem_singleton] at hs;exact .inr (.inr (.inl ⟨rfl,.inr (.inl hs),rfl⟩))
 ·simp only [sOf,List.mem_singleton] at hs;exact .inr (.inr (.inl ⟨rfl,.inr (.inr (.inl hs)),rfl⟩))
 ·simp only [sOf,List.mem_cons,List.not_mem_nil,or_false] at hs;exact .inr (.inr (.inr (.inl ⟨rfl,hs,rfl⟩)))
 ·simp only [sOf,List.mem_cons,List.not_mem_nil,or_false] at hs;refine .inr (.inr (.inl ⟨if_neg V0,?_,rfl⟩));rcases hs with hs | hs
  ·exact .inr (.inr (.inr (.inl hs)))
  ·exact .inr (.inr (.inr (.inr hs)))
theorem q5Z{num:Bs->Nat×Nat}{Q:Bs->Prop}(hn:∀ b,(num b).1 < 4294967296):∀ (f:Nat) (nt:NT) (d:Nat) (l:List Tk),preM Q nt->TQ Q l->Gr Q (gN Q nt) (pF num f nt d l):=by
 intro f
 induction f with
 | zero=>intros;trivial
 | succ f ih=>
  intro nt d l hp h;cases nt with
  | aI n=>
   unfold pF;refine q0W (fun _=>q19 (ih (.aI (n+1)) _ _ trivial h) fun xs r hx hr=>?_) fun _=>?_
   ·obtain ⟨x,rfl,hx⟩:=hx;exact ih (.more n x) _ _ hx hr
   cases l with
   | nil=>trivial
   | cons t r=>
   refine q0W (fun _=>q1i _ _) fun _=>q0W (fun hs=>?_) fun _=>q0W (fun hk=>?_) fun _=>q0W (fun hs=>?_) fun _=>q2d h fun s r hs hr=>?_
   ·refine q19 (ih (.aI 5) _ _ trivial h.tail) fun xs r' hx hr=>⟨?_,hr⟩
    obtain ⟨x,rfl,hx⟩:=hx;refine ⟨_,rfl,?_⟩;unfold gE;refine ⟨rfl,⟨hx,trivial⟩,V2,.inr ⟨rfl,.inr (.inl ⟨rfl,?_,rfl⟩)⟩⟩;unfold ak at hs;simp only [Bool.or_eq_true,Bool.and_eq_true,beq_iff_eq] at hs;rcases hs with hs | hs
    ·exact .inl hs.2
    ·exact .inr hs.2
   ·refine q0W (fun _=>⟨⟨_,rfl,?_⟩,h.tail⟩) fun _=>q1i _ _
    unfold gE;exact ⟨rfl,trivial,hn _,.inl ⟨rfl,rfl,rfl⟩⟩
   ·refine q19 (ih (.aI 0) _ _ trivial h.tail) fun xs r' hx hr=>q0D hr fun r2 hr2=>⟨?_,hr2⟩
    obtain ⟨x,rfl,hx⟩:=hx;exact ⟨_,rfl,gE_put hx _⟩
   ·have leaf:gE Q (.mk 1 t.at_ s 0 [] []):=by
     unfold gE;exact ⟨rfl,trivial,V2,.inr ⟨rfl,.inl ⟨rfl,hs,rfl⟩⟩⟩
    cases r with
    | nil=>exact ⟨⟨_,rfl,leaf⟩,hr⟩
    | cons u r'=>
     refine q0W (fun hu=>?_) fun _=>⟨⟨_,rfl,leaf⟩,hr⟩
     refine q19 (ih (.aI 0) _ _ trivial hr.tail) fun xs r2 hx hr2=>q19 (ih (.args xs) _ _ trivial hr2) fun ys r3 hy hr3=>q0D hr3 fun r4 hr4=>⟨?_,hr4⟩
     obtain ⟨x,rfl,hx⟩:=hx;obtain ⟨zs,rfl,hz⟩:=hy;refine ⟨_,rfl,?_⟩;unfold gE;exact ⟨rfl,⟨hx,hz⟩,V2,.inr ⟨rfl,.inr (.inr (.inr (.inr ⟨rfl,hs,V3⟩)))⟩⟩
  | more n x=>
   unfold pF;cases l with
   | nil=>exact ⟨⟨_,rfl,hp⟩,h⟩
   | cons t r=>
    refine q0W (fun hs=>q19 (ih (.aI (n+1)) _ _ trivial h.tail) fun ys r' hy hr'=>?_) fun _=>⟨⟨_,rfl,hp⟩,h⟩
    obtain ⟨y,rfl,hy⟩:=hy;exact ih (.more n (.mk (if n = 3 then 4 else 3) x.place t.s 0 [] [x,y])) d r' (on_bin hs hp hy x.place) hr'
  | args xs=>
   unfold pF;cases l with
   | nil=>exact ⟨⟨[],V3,trivial⟩,h⟩
   | cons t r=>
    refine q0W (fun hs=>q19 (ih (.aI 0) _ _ trivial h.tail) fun ys r' hy hr'=>?_) fun _=>⟨⟨[],V3,trivial⟩,h⟩
    obtain ⟨y,rfl,hy⟩:=hy;refine q2c (ih (.args (xs ++ [y])) d r' trivial hr') fun zs hz=>?_
    obtain ⟨us,rfl,hu⟩:=hz;exact ⟨y :: us,V3,hy,hu⟩
  | fin k a s ps=>
   unfold pF;refine q19 (ih (.aI 0) _ _ trivial h) fun xs r hx hr=>q0D hr fun r' hr'=>⟨?_,hr'⟩
   obtain ⟨x,rfl,hx⟩:=hx;exact ⟨x,rfl,hx⟩
  | inner=>
   unfold pF;cases l with
   | nil=>trivial
   | cons t r=>
    refine q0W (fun _=>q1i _ _) fun _=>q0W (fun hs=>?_) fun _=>q2d h fun s r hs hr=>q0D hr fun r hr=>?_
    ·refine q2d h.tail fun s r hs hr=>q0D hr fun r hr=>q19 (ih (.aI 0) _ _ trivial hr) fun xs r hx hr=>q0D hr fun r hr=>q19 (ih (.aI 0) _ _ trivial hr) fun ys r hy hr=>q0D hr fun r hr=>q19 (ih (.aM (xs ++ ys)) _ _ trivial hr) fun zs r hz hr=>⟨?_,hr⟩
     obtain ⟨x,rfl,hx⟩:=hx;obtain ⟨y,rfl,hy⟩:=hy;obtain ⟨us,rfl,hu⟩:=hz;refine ⟨_,rfl,?_⟩;unfold gS;refine ⟨rfl,rfl,hs,.inr ⟨rfl,V3,?_⟩⟩;show gA Q 2 (x :: y :: us);unfold gA;refine ⟨hx,?_⟩;unfold gA;exact ⟨hy,hu⟩
    ·refine q2c (ih (.fin 10 t.at_ s []) d r trivial hr) fun zs hz=>?_
     obtain ⟨x,rfl,hx⟩:=hz;refine ⟨_,rfl,?_⟩;unfold gS;refine ⟨rfl,rfl,hs,.inl ⟨rfl,rfl,?_⟩⟩;unfold gA;exact ⟨hx,by unfold gA;trivial⟩
  | aM zs=>
   unfold pF;cases l with
   | nil=>trivial
   | cons t r=>
    refine q0W (fun _=>⟨⟨[],V3,by unfold gA;trivial⟩,h.tail⟩) fun _=>q19 (ih .inner _ _ trivial h) fun xs r' hx hr'=>?_
    obtain ⟨x,rfl,hx⟩:=hx;refine q2c (ih (.aM (zs ++ [x])) d r' trivial hr') fun ys hz=>?_
    obtain ⟨us,rfl,hu⟩:=hz;exact ⟨x :: us,V3,by unfold gA;exact ⟨hx,hu⟩⟩
  | stmt=>
   unfold pF;cases l with
   | nil=>trivial
   | cons t r=>
    have fin:∀ (k:Nat) (s:Bs) (ps:List Bs) (r:List Tk),TQ Q r->(∀ x,gE Q x->gT Q (.mk k t.at_ s 0 ps [x]))->Gr Q (gN Q .stmt) (pF num f (.fin k t.at_ s ps) d r):=fun k s ps r hr hk=>by
     refine q2c (ih (.fin k t.at_ s ps) d r trivial hr) fun zs hz=>?_
     obtain ⟨x,rfl,hx⟩:=hz;exact ⟨_,rfl,hk x hx⟩
    refine q0W (fun _=>?_) fun _=>q0W (fun _=>?_) fun _=>q0W (fun _=>?_) fun _=>q0W (fun _=>?_) fun _=>q0W (fun _=>?_) fun _=>?_
    ·exact q2u (fun ps r h0 hq hr=>q0D hr fun r hr=>gr_ok ⟨_,rfl,by unfold gT;exact .inr ⟨rfl,.inl ⟨.inl rfl,rfl,rfl,h0,hq⟩⟩⟩ hr) [] r V3 h.tail
    ·exact q2u (fun ps r h0 hq hr=>q0D hr fun r hr=>gr_ok ⟨_,rfl,by unfold gT;exact .inr ⟨rfl,.inl ⟨.inr rfl,rfl,rfl,h0,hq⟩⟩⟩ hr) [] r V3 h.tail
    ·exact q2d h.tail fun s r hs hr=>q0D hr fun r hr=>fin 8 s [] r hr fun x hx=>by unfold gT;exact .inr ⟨rfl,.inr (.inl ⟨.inl rfl,rfl,hs,x,rfl,hx⟩)⟩
    ·exact q2d h.tail fun s r hs hr=>q0D hr fun r hr=>fin 9 s [] r hr fun x hx=>by unfold gT;exact .inr ⟨rfl,.inr (.inl ⟨.inr rfl,rfl,hs,x,rfl,hx⟩)⟩
    ·exact q2d h.tail fun s r hs hr=>q0D hr fun r hr=>q2u (fun ps r h0 hq hr=>q0D hr fun r hr=>q0D hr fun r hr=>fin 12 s ps r hr fun x hx=>by unfold gT;exact .inr ⟨rfl,.inr (.inr ⟨rfl,h0,hq,hs,x,rfl,hx⟩)⟩) [] r V3 hr
    ·refine q2c (ih .inner 0 (t :: r) trivial h) fun zs hz=>?_
     obtain ⟨x,rfl,hx⟩:=hz;refine ⟨x,rfl,?_⟩;cases x;unfold gT;exact .inl hx
  | stmts xs=>
   unfold pF;cases l with
   | nil=>trivial
   | cons t r=>
    refine q0W (fun _=>⟨⟨[],V3,V3⟩,h⟩) fun _=>q19 (ih .stmt _ _ trivial h) fun ys r' hy hr'=>?_
    obtain ⟨y,rfl,hy⟩:=hy;refine q2c (ih (.stmts (xs ++ [y])) d r' trivial hr') fun zs hz=>?_
    obtain ⟨us,rfl,hu⟩:=hz;refine ⟨y :: us,V3,fun z hz=>?_⟩;rcases List.mem_cons.1 hz with rfl | hz
    ·exact hy
    ·exact hu z hz
end Pa
namespace Nm
open Lx Pa Sh
structure RS where
 aT:List Bs
 var:List Bs
 aN:List Bs
 fn:List Bs
 many:List Nat
 bad:Option Int
 se:List Bs
 pu:List Bs
 ou:List (Bs×Bool)
def bZ:List Bs->List Nat->Bs->Int
 | f :: fs,m :: ms,s=>if f==s then (m:Int) else bZ fs ms s
 | _,_,_=>-1
def aJ(d:RS)(s:Bs):Bool:=d.aT.contains s || d.var.contains s || d.aN.contains s
def aD(fn:List Bs)(many:List Nat)(s:Bs)(p:Nat):Bool:=decide (bZ fn many s=(p:Int)) && fn.contains s
def bT(o:Option Int)(c:Bool)(a:Int):Option Int:=match o with | some b=>some b | none=>if c then some a else none
def orO(o p:Option Int):Option Int:=match o with | some b=>some b | none=>p
def twB:List Bs->Bool
 | []=>false
 | s :: l=>l.contains s || twB l
def nmR(d:RS)(s:Bs):Bool:=d.aT.contains s || d.var.contains s || d.aN.contains s || d.fn.contains s
mutual
def rsB:Tz->RS->RS
 | .mk k a s n ps l,d=>
  if d.bad.isSome=true then d
  else if k = 6 then { d with bad:=bT d.bad (ps.any (nmR d) || twB ps) a,aT:=d.aT ++ ps,se:=d.se ++ ps }
  else if k = 7 then { d with bad:=bT d.bad (ps.any (nmR d) || twB ps) a,aT:=d.aT ++ ps,pu:=d.pu ++ ps }
  else if k = 12 then
   { d with bad:=orO (bT (bT d.bad (nmR d s || twB ps || ps.contains s) a) (ps.any fun p=>d.fn.contains p) a) (aB (fun t=>ps.contains t) (aD d.fn d.many) l),fn:=d.fn ++ [s],many:=d.many ++ [ps.length] }
  else if k = 8\/k = 9 then
   { d with bad:=bT (orO d.bad (aB (aJ d) (aD d.fn d.many) l)) ((d.ou.map (·.1)).contains s) a,ou:=d.ou ++ [(s,decide (k = 9))] }
  else if k = 10 then
   { d with bad:=bT (orO d.bad (aB (aJ d) (aD d.fn d.many) l)) (d.aT.contains s || d.aN.contains s || d.fn.contains s) a,var:=d.var ++ [s] }
  else if k = 11 then
   let e:=bW 2 l { d with bad:=bT (orO d.bad (aB (aJ d) (aD d.fn d.many) (l.take 2))) (nmR d s) a,aN:=d.aN ++ [s] }
   { e with var:=d.var,aN:=d.aN,aT:=d.aT }
  else d
def bW:Nat->List Tz->RS->RS
 | _,[],d=>d
 | 0,x :: l,d=>bW 0 l (rsB x d)
 | i+1,_ :: l,d=>bW i l d
end
theorem q1E(i:Nat)(d:RS):bW i [] d=d:=by unfold bW;rfl
theorem q1w(x:Tz)(l:List Tz)(d:RS):bW 0 (x :: l) d=bW 0 l (rsB x d):=by conv=>lhs;unfold bW
theorem q3Y:∀ (i:Nat) (l:List Tz) (d:RS),bW i l d=bW 0 (l.drop i) d
 | 0,l,d=>by rw [List.drop_zero]
 | i+1,[],d=>by simp [bW]
 | i+1,x :: l,d=>by rw [List.drop_succ_cons,<-q3Y i l d];conv=>lhs;unfold bW
def initR:RS:={ aT:=[],var:=[],aN:=[],fn:=[sel],many:=[3],bad:=none,se:=[],pu:=[],ou:=[] }
def ckR(z:Tz):RS:=bW 0 (lz z) initR
theorem q60{d:RS}(h:d.bad.isSome=true):∀ (z:Tz),rsB z d=d
 | .mk k a s n ps l=>by unfold rsB;rw [if_pos h]
theorem q1X{d:RS}(h:d.bad.isSome=true):∀ (i:Nat) (l:List Tz),bW i l d=d
 | _,[]=>q1E _ _
 | 0,x :: l=>by rw [q1w,q60 h,q1X h 0 l]
 | i+1,x :: l=>by unfold bW;exact q1X h i l
/-! Both alike. -/
structure Rl(c:St)(d:RS):Prop where
 good:d.bad=none
 aT:∀ s,s∈d.aT↔∃ p,c.kn s=some (0,p)
 fn:∀ s,s∈d.fn↔∃ p,c.kn s=some (1,p)
 var:∀ s,s∈d.var↔∃ p,c.kn s=some (2,p)
 aN:∀ s,s∈d.aN↔∃ p,c.kn s=some (3,p)
 many:∀ s p,c.kn s=some (1,p)->bZ d.fn d.many s=(p:Int)
 len:d.many.length=d.fn.length
 sorts:AQ c.kn
 se:d.se=c.se
 pu:d.pu=c.pu
 ou:d.ou=c.ou
theorem q0c{a b:Bool}(h:a=true↔b=true):a=b:=by cases a <;> cases b <;> simp_all
theorem Rl.named{c:St}{d:RS}(h:Rl c d)(s:Bs):nmR d s=aQ c.kn s:=by
 refine q0c ?_;unfold nmR aQ;simp only [Bool.or_eq_true,List.contains_iff_mem,h.aT,h.var,h.aN,h.fn,Option.isSome_iff_exists];constructor
 ·rintro (((⟨p,h⟩ | ⟨p,h⟩) | ⟨p,h⟩) | ⟨p,h⟩) <;> exact ⟨_,h⟩
 ·rintro ⟨⟨m,p⟩,hk⟩;have hm:=h.sorts s _ hk;simp only at hm;rcases m with _ | _ | _ | _ | m
  ·exact .inl (.inl (.inl ⟨p,hk⟩))
  ·exact .inr ⟨p,hk⟩
  ·exact .inl (.inl (.inr ⟨p,hk⟩))
  ·exact .inl (.inr ⟨p,hk⟩)
  ·omega
theorem Rl.word{c:St}{d:RS}(h:Rl c d)(s:Bs):aJ d s=aA c.kn s:=by
 refine q0c ?_;unfold aJ aA;simp only [Bool.or_eq_true,List.contains_iff_mem,h.aT,h.var,h.aN];cases hk:c.kn s with
 | none=>simp
 | some m=>
  obtain ⟨m,p⟩:=m;have hm:=h.sorts s _ hk;simp only at hm;rcases m with _ | _ | _ | _ | m
  ·simp
  ·simp
  ·simp
  ·simp
  ·omega
theorem Rl.func{c:St}{d:RS}(h:Rl c d)(s:Bs):d.fn.contains s=isB c.kn s [1]:=by
 refine q0c ?_;unfold isB;rw [List.contains_iff_mem,h.fn];cases hk:c.kn s with
 | none=>simp
 | some m=>obtain ⟨m,p⟩:=m;simp
theorem Rl.call{c:St}{d:RS}(h:Rl c d)(s:Bs)(p:Nat):aD d.fn d.many s p=aR c.kn s p:=by
 unfold aD aR;cases hk:c.kn s with
 | none=>
  have:d.fn.contains s=false:=by rw [h.func];unfold isB;rw [hk]
  rw [this];simp
 | some m=>
  obtain ⟨m,q⟩:=m;by_cases hm:m = 1
  ·subst hm;have h1:d.fn.contains s=true:=by rw [h.func];unfold isB;rw [hk];simp
   rw [h1,h.many s q hk];refine q0c ?_;simp only [Bool.and_true,decide_eq_true_eq,decide_true,Bool.true_and];omega
  ·have h1:d.fn.contains s=false:=by rw [h.func];unfold isB;rw [hk];simp;omega
   rw [h1];simp [hm]
mutual
theorem q61{f f':Bs->Bool}{g g':Bs->Nat->Bool}(hf:∀ s,f s=f' s)(hg:∀ s p,g s p=g' s p):∀ z,exB f g z=exB f' g' z
 | .mk k a s n ps l=>by unfold exB;rw [hf,hg,q1a hf hg l]
theorem q1a{f f':Bs->Bool}{g g':Bs->Nat->Bool}(hf:∀ s,f s=f' s)(hg:∀ s p,g s p=g' s p):∀ l,aB f g l=aB f' g' l
 | []=>by unfold aB;rfl
 | x :: l=>by unfold aB;rw [q61 hf hg x,q1a hf hg l]
end
theorem Rl.exs{c:St}{d:RS}(h:Rl c d)(l:List Tz):aB (aJ d) (aD d.fn d.many) l=aB (aA c.kn) (aR c.kn) l:=q1a h.word h.call l
def Both(r:Rs)(d:RS):Prop:=match r with | .bad a=>d.bad=some a | .ok c=>Rl c d
theorem q3s{kn:Kn}{l:List Bs}{s:Bs}{m q:Nat}(hl:∀ t,t∈l↔∃ p,kn t=some (m,p))(hn:kn s=none):∀ t,t∈l ++ [s]↔∃ p,kn.put s (m,q) t=some (m,p):=fun t=>by
 unfold Kn.put;by_cases e:t=s
 ·subst e;simp
 ·rw [if_neg e];simp [e,hl]
theorem q0w{kn:Kn}{l:List Bs}{s:Bs}{m m' q:Nat}(hl:∀ t,t∈l↔∃ p,kn t=some (m,p))(hn:kn s=none)(hm:m'≠m):∀ t,t∈l↔∃ p,kn.put s (m',q) t=some (m,p):=fun t=>by
 unfold Kn.put;by_cases e:t=s
 ·subst e;simp [hl,hn,hm]
 ·rw [if_neg e];exact hl t
theorem q3t{kn:Kn}{fn:List Bs}{mn:List Nat}{s:Bs}{m q:Nat}(h:∀ t p,kn t=some (1,p)->bZ fn mn t=(p:Int))(hm:m≠1):∀ t p,kn.put s (m,q) t=some (1,p)->bZ fn mn t=(p:Int):=fun t p ht=>by
 unfold Kn.put at ht;by_cases e:t=s
 ·rw [if_pos e] at ht;simp at ht;exact absurd ht.1 hm
 ·rw [if_neg e] at ht;exact h t p ht
theorem Rl.putIn{c:St}{d:RS}(h:Rl c d){s:Bs}(hn:c.kn s=none):Rl { c with kn:=c.kn.put s (0,0),en:=c.en ++ [s] } { d with aT:=d.aT ++ [s] }:=
 ⟨h.good,q3s h.aT hn,q0w h.fn hn V2,q0w h.var hn V2,q0w h.aN hn V2,q3t h.many V2,h.len,h.sorts.put V2,h.se,h.pu,h.ou⟩
theorem q7q(s:Bs)(l:List Bs):twB (s :: l)=(l.contains s || twB l):=rfl
theorem q2v{c:Bool}{a:Int}:bT none c a=if c=true then some a else none:=by cases c <;> rfl
theorem q4B{a:Int}:∀ {ps:List Bs} {c:St} {d:RS},Rl c d->(((ps.any (nmR d) || twB ps)=true/\inB a ps c = .bad a)\/((ps.any (nmR d) || twB ps)=false/\∃ c',inB a ps c = .ok c'/\Rl c' { d with aT:=d.aT ++ ps }))
 | [],c,d,h=>.inr ⟨rfl,c,by unfold inB;rfl,Va⟩
 | s :: l,c,d,h=>by
  unfold inB;by_cases hb:aQ c.kn s=true
  ·rw [if_pos hb];exact .inl ⟨by rw [List.any_cons,h.named,hb];simp,rfl⟩
  ·rw [if_neg hb];have hn:=q0y hb;have hs:nmR d s=false:=by rw [h.named];simpa using hb
   have h2:=h.putIn hn;have hany:l.any (nmR { d with aT:=d.aT ++ [s] })=(l.any (nmR d) || l.contains s):=by
    refine q0c ?_;simp only [Bool.or_eq_true,List.any_eq_true,List.contains_iff_mem];unfold nmR;simp only [Bool.or_eq_true,List.contains_iff_mem,List.mem_append,List.mem_singleton];constructor
    ·rintro ⟨x,hx,(((h | h) | h) | h) | h⟩
     ·exact .inl ⟨x,hx,.inl (.inl (.inl h))⟩
     ·subst h;exact .inr hx
     ·exact .inl ⟨x,hx,.inl (.inl (.inr h))⟩
     ·exact .inl ⟨x,hx,.inl (.inr h)⟩
     ·exact .inl ⟨x,hx,.inr h⟩
    ·rintro (⟨x,hx,((h | h) | h) | h⟩ | h)
     ·exact ⟨x,hx,.inl (.inl (.inl (.inl h)))⟩
     ·exact ⟨x,hx,.inl (.inl (.inr h))⟩
     ·exact ⟨x,hx,.inl (.inr h)⟩
     ·exact ⟨x,hx,.inr h⟩
     ·exact ⟨s,h,.inl (.inl (.inl (.inr rfl)))⟩
   have hall:((s :: l).any (nmR d) || twB (s :: l))=(l.any (nmR { d with aT:=d.aT ++ [s] }) || twB l):=by
    rw [hany,List.any_cons,hs,q7q];cases l.any (nmR d) <;> cases l.contains s <;> cases twB l <;> rfl
   rw [hall];rcases q4B (a:=a) (ps:=l) h2 with ⟨h3,h4⟩ | ⟨h3,c',h4,h5⟩
   ·exact .inl ⟨h3,h4⟩
   ·exact .inr ⟨h3,c',h4,by simpa using h5⟩
theorem q62{c:St}{d:RS}(h:Rl c d)(f:Bs):∀ (ps sn:List Bs),paB c.kn f sn ps = !(ps.any (fun s=>sn.contains s) || twB ps || ps.contains f || ps.any fun p=>d.fn.contains p)
 | [],sn=>by unfold paB;simp [twB]
 | s :: l,sn=>by
  unfold paB;have hs:(l.any fun t=>(sn ++ [s]).contains t)=((l.any fun t=>sn.contains t) || l.contains s):=by
   refine q0c ?_;simp only [Bool.or_eq_true,List.any_eq_true,List.contains_iff_mem,List.mem_append,List.mem_singleton];constructor
   ·rintro ⟨x,hx,h | h⟩
    ·exact .inl ⟨x,hx,h⟩
    ·subst h;exact .inr hx
   ·rintro (⟨x,hx,h⟩ | h)
    ·exact ⟨x,hx,.inl h⟩
    ·exact ⟨s,h,.inr rfl⟩
  rw [q62 h f l (sn ++ [s]),hs,<-h.func];have e2:(s :: l).contains f=(s==f || l.contains f):=by
   refine q0c ?_;simp only [List.contains_iff_mem,List.mem_cons,Bool.or_eq_true,beq_iff_eq];constructor
   ·rintro (h | h)
    ·exact .inl h.symm
    ·exact .inr h
   ·rintro (h | h)
    ·exact .inl h.symm
    ·exact .inr h
  rw [e2];simp only [List.any_cons,twB];cases (s==f) <;> cases sn.contains s <;> cases d.fn.contains s <;> cases (l.any fun t=>sn.contains t) <;> cases l.contains s <;> cases twB l <;> cases l.contains f <;> cases (l.any fun p=>d.fn.contains p) <;> rfl
theorem q52:∀ (fn:List Bs) (mn:List Nat),mn.length=fn.length->∀ (s:Bs) (q:Nat) (t:Bs),bZ (fn ++ [s]) (mn ++ [q]) t=if t∈fn then bZ fn mn t else if s=t then (q:Int) else -1
 | [],[],_,s,q,t=>by simp [bZ]
 | f :: fs,m :: ms,h,s,q,t=>by
  rw [List.cons_append,List.cons_append];have ih:=q52 fs ms Va s q t;by_cases e:f=t
  ·subst e;simp [bZ]
  ·have e':t≠f:=fun h=>e h.symm
   simp only [bZ,beq_iff_eq,if_neg e,List.mem_cons,e',false_or];exact ih
 | [],_ :: _,h,_,_,_=>Vc
 | _ :: _,[],h,_,_,_=>Vc
mutual
def okP:Tz->Prop
 | .mk k _ _ _ _ l=>(k = 8\/k = 9\/k = 10\/k = 12->l.length<=1)/\(k = 11->okPs 2 l)
def okPs:Nat->List Tz->Prop
 | _,[]=>True
 | 0,x :: l=>okP x/\okPs 0 l
 | i+1,_ :: l=>okPs i l
end
theorem q3u{o:Option Int}:orO none o=o:=rfl
theorem q3v{α:Type}{l:List α}{n:Nat}(h:l.length<=n):l.take n=l:=List.take_of_length_le h
theorem isB3{kn:Kn}{s:Bs}{m:Nat}:isB kn s [m]=true↔∃ p,kn s=some (m,p):=by
 unfold isB;cases hk:kn s with
 | none=>simp
 | some x=>obtain ⟨x,p⟩:=x;simp
mutual
theorem st_both:∀ (z:Tz),okP z->∀ (c:St) (d:RS),Rl c d->Both (stB z c) (rsB z d)
 | .mk k a s n ps l,hp,c,d,h=>by
  unfold okP at hp;unfold stB rsB;rw [if_neg (c:=d.bad.isSome=true) (by rw [h.good];simp)];by_cases h6:k = 6
  ·rw [if_pos h6,if_pos h6,h.good];rcases q4B (a:=a) (ps:=ps) h with ⟨h1,h2⟩ | ⟨h1,c',h2,h3⟩
   ·rw [h1,h2];rfl
   ·rw [h1,h2];exact ⟨rfl,h3.aT,h3.fn,h3.var,h3.aN,h3.many,h3.len,h3.sorts,by show d.se ++ ps=c'.se ++ ps;rw [<-h3.se],h3.pu,h3.ou⟩
  rw [if_neg h6,if_neg h6];by_cases h7:k = 7
  ·rw [if_pos h7,if_pos h7,h.good];rcases q4B (a:=a) (ps:=ps) h with ⟨h1,h2⟩ | ⟨h1,c',h2,h3⟩
   ·rw [h1,h2];rfl
   ·rw [h1,h2];exact ⟨rfl,h3.aT,h3.fn,h3.var,h3.aN,h3.many,h3.len,h3.sorts,h3.se,by show d.pu ++ ps=c'.pu ++ ps;rw [<-h3.pu],h3.ou⟩
  rw [if_neg h7,if_neg h7];by_cases h12:k = 12
  ·rw [if_pos h12,if_pos h12,h.good,q2v,h.named];by_cases hb:aQ c.kn s=true
   ·rw [if_pos hb,hb];rfl
   rw [if_neg hb];have hn:=q0y hb;have hb':aQ c.kn s=false:=by simpa using hb
   have hpa:=q62 h s ps [];have hnil:(ps.any fun t=>([]:List Bs).contains t)=false:=V3;rw [hnil,Bool.false_or] at hpa;rw [hb',Bool.false_or,q3v (hp.1 (.inr (.inr (.inr h12))))];by_cases h1:(twB ps || ps.contains s)=true
   ·rw [h1] at hpa ⊢;rw [if_pos (c:=paB c.kn s [] ps=false) (by rw [hpa];rfl)];rfl
   ·have h1':(twB ps || ps.contains s)=false:=by simpa using h1
    rw [h1'] at hpa ⊢;rw [Bool.false_or] at hpa;show Both _ { d with bad:=orO (bT none _ a) _,fn:=_,many:=_ };rw [q2v];by_cases h2:(ps.any fun p=>d.fn.contains p)=true
    ·rw [h2] at hpa ⊢;rw [if_pos (c:=paB c.kn s [] ps=false) (by rw [hpa];rfl)];rfl
    ·have h2':(ps.any fun p=>d.fn.contains p)=false:=by simpa using h2
     rw [h2'] at hpa ⊢;rw [if_neg (c:=paB c.kn s [] ps=false) (by rw [hpa];simp),q1a (f':=fun t=>ps.contains t) (fun _=>rfl) h.call l];cases aB (fun t=>ps.contains t) (aR c.kn) l with
     | some e=>rfl
     | none=>
      refine ⟨rfl,q0w h.aT hn V2,q3s h.fn hn,q0w h.var hn V2,q0w h.aN hn V2,fun t p ht=>?_,by simp [h.len],h.sorts.put (by show 1<=3;decide),h.se,h.pu,h.ou⟩;show bZ (d.fn ++ [s]) (d.many ++ [ps.length]) t=_;rw [q52 _ _ h.len];have ht':c.kn.put s (1,ps.length) t=some (1,p):=ht;unfold Kn.put at ht';by_cases e:t=s
      ·rw [if_pos e] at ht';have hnf:¬ t∈d.fn:=fun hm=>by
        obtain ⟨q,hq⟩:=(h.fn t).1 hm;rw [e,hn] at hq;cases hq
       rw [if_neg hnf,if_pos e.symm];simp at ht';rw [ht']
      ·rw [if_neg e] at ht';rw [if_pos ((h.fn t).2 ⟨p,ht'⟩)];exact h.many t p ht'
  rw [if_neg h12,if_neg h12];by_cases h8:k = 8\/k = 9
  ·rw [if_neg (c:=k = 10) V0,if_pos h8,if_pos h8,h.good,h.exs,q3v (hp.1 V0),q3u,h.ou];cases aB (aA c.kn) (aR c.kn) l with
   | some e=>rfl
   | none=>
    show Both (if _ then Rs.bad a else _) _;by_cases hb:(c.ou.map (·.1)).contains s=true
    ·rw [if_pos hb,hb];rfl
    ·rw [if_neg hb];have hb':(c.ou.map (·.1)).contains s=false:=by simpa using hb
     rw [hb'];exact ⟨rfl,h.aT,h.fn,h.var,h.aN,h.many,h.len,h.sorts,h.se,h.pu,rfl⟩
  rw [if_neg h8,if_neg h8];by_cases h10:k = 10
  ·rw [if_pos h10,if_pos h10,h.good,h.exs,q3v (hp.1 V0),q3u];cases aB (aA c.kn) (aR c.kn) l with
   | some e=>rfl
   | none=>
    show Both (if _ then Rs.bad a else _) _;have hq:(d.aT.contains s || d.aN.contains s || d.fn.contains s)=isB c.kn s [0,1,3]:=by
     refine q0c ?_;simp only [Bool.or_eq_true,List.contains_iff_mem,h.aT,h.aN,h.fn];unfold isB;cases hk:c.kn s with
     | none=>simp
     | some x=>
      obtain ⟨x,p⟩:=x;simp;omega
    rw [hq,q2v];by_cases hb:isB c.kn s [0,1,3]=true
    ·rw [if_pos hb,if_pos hb];rfl
    rw [if_neg hb,if_neg hb];by_cases hv:isB c.kn s [2]=true
    ·rw [if_pos hv];have hm:s∈d.var:=(h.var s).2 (isB3.1 hv);exact ⟨rfl,h.aT,h.fn,fun t=>by rw [<-h.var];simp;intro e;subst e;exact hm,h.aN,h.many,h.len,h.sorts,h.se,h.pu,h.ou⟩
    ·rw [if_neg hv];have hn:=q4T hb hv h.sorts;exact ⟨rfl,q0w h.aT hn V2,q0w h.fn hn V2,q3s h.var hn,q0w h.aN hn V2,q3t h.many V2,h.len,h.sorts.put V2,h.se,h.pu,h.ou⟩
  rw [if_neg h10,if_neg h10];by_cases h11:k = 11
  ·rw [if_pos h11,if_pos h11,h.good,h.exs,q3u,h.named];cases aB (aA c.kn) (aR c.kn) (l.take 2) with
   | some e=>
    show ({ bW 2 l _ with var:=_,aN:=_,aT:=_ }:RS).bad=some e;rw [q1X V8];rfl
   | none=>
    show Both (if _ then Rs.bad a else _) _;rw [q2v];by_cases hb:aQ c.kn s=true
    ·rw [if_pos hb,if_pos hb];show ({ bW 2 l _ with var:=_,aN:=_,aT:=_ }:RS).bad=some a;rw [q1X V8]
    rw [if_neg hb,if_neg hb];have hn:=q0y hb;have h1:Rl { c with kn:=c.kn.put s (3,0),en:=c.en ++ [s] } { d with bad:=none,aN:=d.aN ++ [s] }:=
     ⟨rfl,q0w h.aT hn V2,q0w h.fn hn V2,q0w h.var hn V2,q3s h.aN hn,q3t h.many V2,h.len,h.sorts.put V2,h.se,h.pu,h.ou⟩
    have h2:=q2w 2 l (hp.2 h11) _ _ h1;have hx:∀ c2,cO 2 l { c with kn:=c.kn.put s (3,0),en:=c.en ++ [s] } = .ok c2->Ext c c2/\∃ e,c2.en=c.en ++ e/\(∀ s∈e,c.kn s=none/\∃ m,c2.kn s=some m/\m.1≠1)/\∀ s m,c2.kn s=some m->c.kn s=none->m.1≠1->s∈e:=fun c2 h3=>by
     have h4:=(Ext.new (c:=c) (d:={ c with kn:=c.kn.put s (3,0),en:=c.en ++ [s] }) hn V2 rfl rfl).trans (q1f h3 (h.sorts.put V2)).1;exact ⟨h4,h4.en⟩
    cases h3:cO 2 l { c with kn:=c.kn.put s (3,0),en:=c.en ++ [s] } with
    | bad b=>rw [h3] at h2;exact h2
    | ok c2=>
     rw [h3] at h2;have hR:Rl c2 (bW 2 l { d with bad:=none,aN:=d.aN ++ [s] }):=h2;obtain ⟨hE,e,h4,h5,h7'⟩:=hx c2 h3;have hd:c2.en.drop c.en.length=e:=by rw [h4];simp
     have key:∀ (li:List Bs) (m:Nat),m≠1->(∀ t,t∈li↔∃ p,c.kn t=some (m,p))->∀ t,t∈li↔∃ p,c2.kn.cu (c2.en.drop c.en.length) t=some (m,p):=fun li m hm hl t=>by
      rw [hd,hl];unfold Kn.cu;constructor
      ·rintro ⟨p,hp⟩;rw [if_neg (fun hh=>by rw [(h5 t hh).1] at hp;cases hp)];exact ⟨p,hE.kn t _ hp⟩
      ·rintro ⟨p,hp⟩;by_cases hte:t∈e
       ·rw [if_pos hte] at hp;cases hp
       rw [if_neg hte] at hp;cases hc:c.kn t with
       | none=>exact absurd (h7' t _ hp hc hm) hte
       | some x=>have:=hE.kn t x hc;rw [this] at hp;exact ⟨p,hp⟩
     have keyf:∀ t p,c2.kn.cu (c2.en.drop c.en.length) t=some (1,p)↔c2.kn t=some (1,p):=fun t p=>by
      rw [hd];unfold Kn.cu;by_cases hte:t∈e
      ·rw [if_pos hte];obtain ⟨_,x,hx1,hx2⟩:=h5 t hte;rw [hx1];constructor
       ·intro hh;cases hh
       ·intro hh;cases hh;exact absurd rfl hx2
      ·rw [if_neg hte]
     exact ⟨hR.good,key _ 0 V2 h.aT,fun t=>by show t∈(bW 2 l _).fn↔_;rw [hR.fn];exact exists_congr fun p=>(keyf t p).symm,key _ 2 V2 h.var,key _ 3 V2 h.aN,fun t p ht=>hR.many t p ((keyf t p).1 ht),hR.len,hR.sorts.cu _,hR.se,hR.pu,hR.ou⟩
  rw [if_neg h11,if_neg h11];exact h
theorem q2w:∀ (i:Nat) (l:List Tz),okPs i l->∀ (c:St) (d:RS),Rl c d->Both (cO i l c) (bW i l d)
 | i,[],_,c,d,h=>by rw [q2r,q1E];exact h
 | 0,x :: l,hp,c,d,h=>by
  unfold okPs at hp;rw [q1s,q1w];have h1:=st_both x hp.1 c d h;cases h2:stB x c with
  | bad a=>
   rw [h2] at h1;have h1':(rsB x d).bad=some a:=h1;show (bW 0 l (rsB x d)).bad=some a;rw [q1X (by rw [h1'];rfl),h1']
  | ok c1=>
   rw [h2] at h1;exact q2w 0 l hp.2 c1 _ h1
 | i+1,x :: l,hp,c,d,h=>by
  unfold okPs at hp;unfold cO bW;exact q2w i l hp c d h
end
theorem q63:Rl init initR:=by
 refine ⟨rfl,fun s=>?_,fun s=>?_,fun s=>?_,fun s=>?_,fun s p h=>?_,rfl,?_,rfl,rfl,rfl⟩
 ·exact V0N
 ·exact V0N
 ·exact V0N
 ·exact V0N
 ·simp only [init,Kn.put] at h;by_cases e:s=sel
  ·simp [e] at h;subst h;subst e;rfl
  ·simp [e] at h
 ·intro s m h;simp only [init,Kn.put] at h;by_cases e:s=sel
  ·simp [e] at h;subst h;decide
  ·simp [e] at h
theorem ck_both{z:Tz}(h:okPs 0 (lz z)):Both (ckB z) (ckR z):=q2w 0 (lz z) h init initR q63
mutual
theorem q8r{Q:Bs->Prop}:∀ {x:Tr},gS Q x->okP (bD x)
 | .mk k a s n ps l,h=>by
  unfold gS at h;unfold bD okP;rw [q3j];obtain ⟨_,_,_,⟨h1,h2,_⟩ | ⟨h1,h2,h3⟩⟩:=h
  ·subst h1;exact ⟨fun _=>V0,fun h=>Vc⟩
  ·subst h1;exact ⟨fun h=>Vc,fun _=>q64 h3⟩
theorem q64{Q:Bs->Prop}:∀ {i:Nat} {l:List Tr},gA Q i l->okPs i (bS l)
 | _,[],_=>by unfold bS okPs;trivial
 | 0,x :: l,h=>by unfold gA at h;unfold bS okPs;exact ⟨q8r h.1,q64 h.2⟩
 | i+1,x :: l,h=>by unfold gA at h;unfold bS okPs;exact q64 h.2
end
theorem okP_gT{Q:Bs->Prop}{x:Tr}(h:gT Q x):okP (bD x):=by
 obtain ⟨k,a,s,n,ps,l⟩:=x;unfold gT at h;rcases h with h | ⟨_,⟨h1,_,h2,_⟩ | ⟨h1,_,_,y,rfl,_⟩ | ⟨h1,_,_,_,y,rfl,_⟩⟩
 ·exact q8r h
 ·unfold bD okP;exact ⟨fun _=>by rw [h2];simp [bS],fun h=>V0⟩
 ·unfold bD okP;exact ⟨fun _=>by simp [bS],fun h=>V0⟩
 ·unfold bD okP;exact ⟨fun _=>by simp [bS],fun h=>V0⟩
theorem q65{Q:Bs->Prop}:∀ {l:List Tr},(∀ y∈l,gT Q y)->okPs 0 (bS l)
 | [],_=>by unfold bS okPs;trivial
 | x :: l,h=>by unfold bS okPs;exact ⟨okP_gT (h x V3),q65 fun y hy=>h y (by simp [hy])⟩
end Nm
namespace Nm
open Go Go.ChangeShapes Go.WideShapes Go.ChangeAt Go.RowKit Lx Args Pa Sh
def StL(w:World)(g:Nat)(v:Value)(l:List Bs):Prop:=∃ A c,v = .slice A l.length c/\Af w A (l.map ai)/\l.length<=maxLen/\∀ b o,A=some ⟨b,o,none⟩->l≠[]->b≠g
abbrev intV(n:Nat):Value:=.int .i64 (n:Int)
def InL(w:World)(g:Nat)(v:Value)(l:List Nat):Prop:=∃ A c,v = .slice A l.length c/\Af w A (l.map intV)/\l.length<=maxLen/\∀ b o,A=some ⟨b,o,none⟩->l≠[]->b≠g
theorem StL.upd{w w':World}{g:Nat}{v:Value}{l:List Bs}(h:StL w g v l)(hu:Upd (fun b=>b=g) w w'):StL w' g v l:=by
 obtain ⟨A,c,h1,h2,h3,h4⟩:=h;refine ⟨A,c,h1,hu.lies h2 fun b o e hl=>h4 b o e fun e2=>?_,h3,h4⟩;rw [e2] at hl;simp at hl
theorem InL.upd{w w':World}{g:Nat}{v:Value}{l:List Nat}(h:InL w g v l)(hu:Upd (fun b=>b=g) w w'):InL w' g v l:=by
 obtain ⟨A,c,h1,h2,h3,h4⟩:=h;refine ⟨A,c,h1,hu.lies h2 fun b o e hl=>h4 b o e fun e2=>?_,h3,h4⟩;rw [e2] at hl;simp at hl
structure EV(w:World)(g:Nat)(v0 v1 v2 v3 v4 v7 v8 v9:Value)(d:RS)(bad:Option Int):Prop where
 blk:∃ ba,Aa w g 70 #[v0,v1,v2,v3,v4,.int .i64 ba,.bool bad.isSome,v7,v8,v9]/\∀ a,bad=some a->ba=a
 aT:StL w g v0 d.aT
 var:StL w g v1 d.var
 aN:StL w g v2 d.aN
 fn:StL w g v3 d.fn
 many:InL w g v4 d.many
 len:d.many.length=d.fn.length
section
variable {w w' : World} {g : Nat} {v0 v1 v2 v3 v4 v7 v8 v9 : Value} {d : RS} {bad : Option Int}
theorem EV.lt(h:EV w g v0 v1 v2 v3 v4 v7 v8 v9 d bad):g < w.heap.size:=by obtain ⟨_,h,_⟩:=h.blk;exact h.lt
theorem EV.below(h:EV w g v0 v1 v2 v3 v4 v7 v8 v9 d bad)(hb:Below w.heap.size w w'):EV w' g v0 v1 v2 v3 v4 v7 v8 v9 d bad:=by
 obtain ⟨⟨ba,h1,h2⟩,h3,h4,h5,h6,h7,h8⟩:=h;have hu:Upd (fun b=>b=g) w w':=Upd.of_below hb _;exact ⟨⟨ba,h1.below hb h1.lt,h2⟩,h3.upd hu,h4.upd hu,h5.upd hu,h6.upd hu,h7.upd hu,h8⟩
theorem EV.c10{x5 x6:Value}(h:Aa w g 70 #[v0,v1,v2,v3,v4,x5,x6,v7,v8,v9]):(w.cell? ⟨g,0,none⟩=some v0/\w.cell? ⟨g,1,none⟩=some v1/\w.cell? ⟨g,2,none⟩=some v2/\w.cell? ⟨g,3,none⟩=some v3/\w.cell? ⟨g,4,none⟩=some v4/\w.cell? ⟨g,5,none⟩=some x5/\w.cell? ⟨g,6,none⟩=some x6/\w.cell? ⟨g,7,none⟩=some v7/\w.cell? ⟨g,8,none⟩=some v8/\w.cell? ⟨g,9,none⟩=some v9) /\
  w.frozen? ⟨g,5,none⟩=false/\w.frozen? ⟨g,6,none⟩=false:=
 ⟨⟨h.cell 0,h.cell 1,h.cell 2,h.cell 3,h.cell 4,h.cell 5,h.cell 6,h.cell 7,h.cell 8,h.cell 9⟩,h.frozen 5,h.frozen 6⟩
end
def ExR(w:World)(g:Nat)(v0 v1 v2 v3 v4 v7 v8 v9:Value)(d:RS)(bad:Option Int)(e:Ending)(w':World):Prop:=e = .returned (.tuple #[])/\EV w' g v0 v1 v2 v3 v4 v7 v8 v9 d bad/\Upd (fun b=>b=g) w w'
theorem bad_(w:World)(g:Nat)(v0 v1 v2 v3 v4 v7 v8 v9:Value)(d:RS)(bad:Option Int)(q:Bool)(k a:Int)(s:Bs)(n:Nat)(A:Option Addr)(la cA:Nat)(B:Option Addr)(lb cB:Nat)(h:EV w g v0 v1 v2 v3 v4 v7 v8 v9 d bad) :
  Calls Tryz.prog 64 #[.pointer (some ⟨g,0,none⟩),.bool q,aO k a s n A la cA B lb cB] w (ExR w g v0 v1 v2 v3 v4 v7 v8 v9 d (bT bad q a)):=by
 obtain ⟨wn,hwn,hbn,aK,hsn⟩:=dw w (nB k a s n A la cA B lb cB);have hg0:=h.lt;have hE:=h.below hbn;have HE:=Hi hE;have HW:=Hi hwn;have HBN:=Hi hbn;have HXN:=Hi aK;obtain ⟨ba,hblk,aL⟩:=hE.blk;obtain ⟨⟨c0,c1,c2,c3,c4,c5,c6,c7,c8,c9⟩,f5,f6⟩:=EV.c10 hblk;have HBLK:=Hi hblk;have hlt:=hblk.lt;have HEND0:=Hi (show ExR w g v0 v1 v2 v3 v4 v7 v8 v9 d bad (.returned (.tuple #[])) wn from ⟨rfl,hE,Upd.of_below hbn _⟩);cases q with
 | false=>
  have h0:bT bad false a=bad:=by cases bad <;> rfl
  rw [h0];exact V2D
 | true=>
  cases bad with
  | some a1=>
   exact V2D
  | none=>
   have hdr:Below wn.heap.size wn wn.drew:=Below.drew (Below.refl _ _);obtain ⟨wz,hwd⟩:∃ v,wn.drew=v:=⟨_,rfl⟩;rw [hwd] at hdr;have HEz:=Hi (hE.below hdr);have HBz:=Hi (hblk.below hdr hblk.lt);have aa:=aK.below hdr aK.lt;have hUz:Upd (fun b=>b=g) w wz:=(Upd.of_below (hbn.trans (hdr.mono hbn.size)) _);have hne:¬ w.heap.size=g:=V0;have HUz:=Hi hUz;clear h hE hwn hbn aK hblk aL hsn hdr hUz;go_enter Tryz.func64,Tryz.ntmps64;go_upto_region 1 with fail
   rw [HW.out];go_wp2_with fail
   refine HT.wp_region (Z:=fun w'=>Aa w' w.heap.size 26 (nB k a s n A la cA B lb cB)) (S:=fun _=>True) (st:=[]) V1 ?_;rw [hwd];clear hwd;refine HT.k 0 rfl VA aa ?_;refine HT.k 1 rfl VA aa ?_;refine HT.k 2 rfl VA aa ?_;refine HT.k 3 rfl VA aa ?_;refine HT.k 4 rfl VA aa ?_;refine HT.k 5 rfl VA aa ?_;clear c0 c1 c2 c3 c4 c5 c6 c7 c8 c9 f5 f6;obtain ⟨⟨c0,c1,c2,c3,c4,c5,c6,c7,c8,c9⟩,f5,f6⟩:=EV.c10 HBz.out;refine HT.one (i:=6) V1 rfl (fun K hK=>?_);go_simp;have hu1:Upd (fun b=>b=g) wz (wz.setCell ⟨g,6,none⟩ (.bool true)):=(Upd.refl (fun b=>b=g) wz).setCell (p:=⟨g,6,none⟩) (fun _=>rfl) _;have hZ1:=aa.upd hu1 hne;have hB1:=HBz.out.set 6 (.bool true);have HB1:=Hi (show Aa (wz.setCell ⟨g,6,none⟩ (.bool true)) g 70 #[v0,v1,v2,v3,v4,.int .i64 ba,.bool true,v7,v8,v9] from hB1);clear hB1;(try dsimp only);refine hK.out _ _ hZ1 trivial ?_;clear hK K;(try simp only [HT.pS]);refine HT.k 7 rfl VA hZ1 ?_;refine HT.k 8 rfl VA hZ1 ?_;clear c0 c1 c2 c3 c4 c5 c6 c7 c8 c9 f5 f6;obtain ⟨⟨c0,c1,c2,c3,c4,c5,c6,c7,c8,c9⟩,f5,f6⟩:=EV.c10 HB1.out;have hl1:=HB1.out.lt;refine HT.one (i:=9) V1 rfl (fun K hK=>?_);go_simp;have hu2:Upd (fun b=>b=g) wz ((wz.setCell ⟨g,6,none⟩ (.bool true)).setCell ⟨g,5,none⟩ (.int .i64 a)):=hu1.setCell (p:=⟨g,5,none⟩) (fun _=>rfl) _;have hZ2:=aa.upd hu2 hne;refine hK.out _ _ hZ2 trivial ?_;clear hK K;(try simp only [HT.pS]);refine HT.done V1 ?_;have hez:=HEz.out;have Ac:=Hi (show ExR w g v0 v1 v2 v3 v4 v7 v8 v9 d (some a) (.returned (.tuple #[])) ((wz.setCell ⟨g,6,none⟩ (.bool true)).setCell ⟨g,5,none⟩ (.int .i64 a)) from
    ⟨rfl,⟨⟨a,HB1.out.set 5 (.int .i64 a),fun _ h=>by cases h;rfl⟩,hez.aT.upd hu2,hez.var.upd hu2,hez.aN.upd hu2,hez.fn.upd hu2,hez.many.upd hu2,hez.len⟩,HUz.out.trans hu2⟩)
   clear hu1 hu2 aa hZ1 hZ2 hez c0 c1 c2 c3 c4 c5 c6 c7 c8 c9 f5 f6;exact Vd
theorem q53:∀ (fs:List Bs) (ms:List Nat) (s:Bs) (i:Nat) (m:Nat),(∀ j,j < i->fs[j]?≠some s)->fs[i]?=some s->ms[i]?=some m->bZ fs ms s=(m:Int)
 | [],_,s,i,m,_,h,_=>Vc
 | f :: fs,[],s,i,m,_,_,h=>Vc
 | f :: fs,x :: ms,s,0,m,_,h,h'=>by
  have h1:f=s:=Va;have h2:x=m:=by simpa using h'
  unfold bZ;subst h1;subst h2;simp
 | f :: fs,x :: ms,s,i+1,m,hj,h,h'=>by
  have h0:f≠s:=fun e=>hj 0 V0 (by simp [e])
  unfold bZ;rw [if_neg (by simpa using h0)];exact q53 fs ms s i m (fun j hlt=>by have:=hj (j+1) V0;simpa using this) Va (by simpa using h')
theorem q54:∀ (fs:List Bs) (ms:List Nat) (s:Bs),(∀ j,j < fs.length->fs[j]?≠some s)->bZ fs ms s = -1
 | [],ms,s,_=>by unfold bZ;rfl
 | f :: fs,[],s,_=>by unfold bZ;rfl
 | f :: fs,x :: ms,s,hj=>by
  have h0:f≠s:=fun e=>hj 0 V3 (by simp [e])
  unfold bZ;rw [if_neg (by simpa using h0)];exact q54 fs ms s fun j hlt=>by have:=hj (j+1) V4;simpa using this
theorem many_(w:World)(g:Nat)(v0 v1 v2 v3 v4 v7 v8 v9:Value)(d:RS)(bad:Option Int)(s:Bs)(h:EV w g v0 v1 v2 v3 v4 v7 v8 v9 d bad) :
  Calls Tryz.prog 98 #[.pointer (some ⟨g,0,none⟩),.string ⟨s.toArray⟩] w fun e w'=>e = .returned (.int .i64 (bZ d.fn d.many s))/\w=w':=by
 obtain ⟨ba,hblk,aL⟩:=h.blk;obtain ⟨A,c,rfl,hL,hl,_⟩:=h.fn;obtain ⟨A',c',rfl,hL',hl',_⟩:=h.many;have hlen:=h.len;obtain ⟨⟨c0,c1,c2,c3,c4,c5,c6,c7,c8,c9⟩,f5,f6⟩:=EV.c10 hblk;have hlm:d.fn.length<=9223372036854775807:=hl;have HL:=Hi hL;have HL':=Hi hL';obtain ⟨res,hres⟩:∃ res,bZ d.fn d.many s=res:=⟨_,rfl⟩;rw [hres];have Ad:=Hi hres;clear h hblk aL hL hL' hres hl hl';go_enter Tryz.func98,Tryz.ntmps98;go_wp2_with fail
 go_loop [5] (fun vi=>∃ i:Nat,i<=d.fn.length/\vi = .int .i64 (i:Int)/\Hid (∀ j,j < i->d.fn[j]?≠some s)) (fun vi=>d.fn.length - (intOf vi).toNat)
 case atStart=>exact ⟨0,V0,rfl,Hi fun j hj=>absurd hj V0⟩
 case round=>
  obtain ⟨i,hi,rfl,HQ⟩:=hrel;by_cases hlt:i < d.fn.length
  ·obtain ⟨t,ht⟩:∃ t,d.fn[i]?=some t:=⟨_,List.getElem?_eq_getElem hlt⟩;obtain ⟨m,hm⟩:∃ m,d.many[i]?=some m:=⟨_,List.getElem?_eq_getElem V0⟩;have t2:(d.fn.map ai)[i]?=some (.string ⟨t.toArray⟩):=by rw [List.getElem?_map,ht];rfl
   have m2:(d.many.map intV)[i]?=some (.int .i64 (m:Int)):=by rw [List.getElem?_map,hm];rfl
   obtain ⟨b,o,rfl,_,hc⟩:=HL.out.at_ t2;obtain ⟨b',o',rfl,_,hc'⟩:=HL'.out.at_ m2;have e1:=hc _ _ t2;have e2:=hc' _ _ m2;have hlt':i < d.many.length:=V0;by_cases hts:t=s
   ·subst hts;have HR:=Hi (show (m:Int)=res from by rw [<-Ad.out];exact (q53 _ _ _ i m HQ.out ht hm).symm);clear hc hc' t2 m2 ht hm;exact V3t
   ·have hb:(t==s)=false:=by simpa using hts
    have HN:=Hi (show ∀ j,j < i+1->d.fn[j]?≠some s from fun j hj=>by
     by_cases h:j < i
     ·exact HQ.out j h
     ·obtain rfl:j=i:=by omega
      rw [ht];intro e;exact hts (Option.some.inj e))
    clear hc hc' t2 m2 ht hm hts;go_wp2_with fail
    go_round
    case rel=>exact ⟨i+1,V0,V7,HN⟩
    case measure=>simp [intOf];omega
  ·have HR:=Hi (show (-1:Int)=res from by rw [<-Ad.out];exact (q54 _ _ _ fun j hj=>HQ.out j V0).symm);exact V3t
end Nm
end Go.Proofs.YtcgibpdjfgjldaaGreatDoor
