/- DERIVED. PaMem, ShArg, ShPl, NmSpec, NmMap, FlMap, FlRange, FlSpec. By an AI agent. -/
import Derived.Test.YtcgibpdjfgjldaaGreatDoorU03
import Derived.Test.YtcgibpdjfgjldaaGreatDoorRows
import Derived.Maps.OwnSet
import Derived.Maps.Views
import Derived.StringKeys
import Derived.Maps.RangeWalk
set_option linter.unusedVariables false
set_option linter.unusedSimpArgs false
namespace Go.Proofs.YtcgibpdjfgjldaaGreatDoor
namespace Pa
open Go Go.RowKit Lx Args
def strV(p:Bs):Value:=.string ⟨p.toArray⟩
def ndC(k a:Nat)(s:Bs)(n:Nat)(A:Option Addr)(la cA:Nat)(B:Option Addr)(lb cB:Nat):List Value:=
 [.int .i64 (k:Int),.string ⟨s.toArray⟩,.int .u32 (n:Int),.int .i64 (a:Int),.slice A la cA,.slice B lb cB]
structure CapOk(n c:Nat):Prop where
 few:n<=100000
 le:n<=c
 cap:c<=maxLen
theorem own_cap{w:World}{lo:Nat}{e:TypeId}{size n c:Nat}{A:Option Addr}{xs:List Value}(h:w.ownsRow lo e size (.slice A n c) n xs)(hl:n<=100000):CapOk n c:=by
 rcases h.2 with ⟨h,h0⟩ | ⟨g,cap,cur,h,_,_,h1,h2,_⟩
 ·cases h;exact ⟨hl,Nat.le_refl _,V2⟩
 ·cases h;exact ⟨hl,h1,h2⟩
mutual
def TIn(N:Nat->Prop)(w:World):Tr->List Value->Prop
 | .mk k a s n ps l,cs=>∃ A cA B cB,cs=ndC k a s n A l.length cA B ps.length cB/\CapOk l.length cA/\CapOk ps.length cB/\Lies w B (ps.map strV)/\(∀ b o,B=some ⟨b,o,none⟩->ps≠[]->N b) /\
   ∃ css,Lies w A css.flatten/\(∀ b o,A=some ⟨b,o,none⟩->l≠[]->N b)/\TsIn N w l css
def TsIn(N:Nat->Prop)(w:World):List Tr->List (List Value)->Prop
 | [],css=>css=[]
 | x :: l,css=>∃ c r,css=c :: r/\TIn N w x c/\TsIn N w l r
end
mutual
theorem TIn.upd{N X:Nat->Prop}{w w':World}(hu:Upd X w w')(hN:∀ b,N b->¬ X b):∀ {x:Tr} {cs:List Value},TIn N w x cs->TIn N w' x cs
 | .mk _ _ _ _ ps l,_,h=>by
  unfold TIn at h ⊢;obtain ⟨A,cA,B,cB,h1,h2,h3,h4,h5,css,h6,h7,h8⟩:=h;refine ⟨A,cA,B,cB,h1,h2,h3,hu.lies h4 fun b o e hl=>hN b (h5 b o e fun e2=>?_),h5,css,?_,h7,TsIn.upd hu hN h8⟩
  ·rw [e2] at hl;simp at hl
  ·refine hu.lies h6 fun b o e hl=>hN b (h7 b o e fun e2=>?_)
   subst e2;unfold TsIn at h8;subst h8;simp at hl
theorem TsIn.upd{N X:Nat->Prop}{w w':World}(hu:Upd X w w')(hN:∀ b,N b->¬ X b):∀ {l:List Tr} {css:List (List Value)},TsIn N w l css->TsIn N w' l css
 | [],_,h=>by unfold TsIn at h ⊢;exact h
 | x :: l,_,h=>by
  unfold TsIn at h ⊢;obtain ⟨c,r,h1,h2,h3⟩:=h;exact ⟨c,r,h1,TIn.upd hu hN h2,TsIn.upd hu hN h3⟩
end
theorem q3j{N:Nat->Prop}{w:World}{x:Tr}{cs:List Value}(h:TIn N w x cs):cs.length = 6:=by
 cases x;unfold TIn at h;obtain ⟨_,_,_,_,rfl,_⟩:=h;rfl
theorem q59{N:Nat->Prop}{w:World}:∀ {l:List Tr} {css:List (List Value)},TsIn N w l css->css.length=l.length/\css.flatten.length=l.length * 6
 | [],_,h=>by unfold TsIn at h;subst h;exact ⟨rfl,rfl⟩
 | x :: l,_,h=>by
  unfold TsIn at h;obtain ⟨c,r,rfl,h2,h3⟩:=h;have h4:=q59 h3;have h5:=q3j h2;simp only [List.length_cons,List.flatten_cons,List.length_append];omega
mutual
theorem TIn.mono{N N':Nat->Prop}{w:World}(hN:∀ b,N b->b < w.heap.size->N' b):∀ {x:Tr} {cs:List Value},TIn N w x cs->TIn N' w x cs
 | .mk _ _ _ _ ps l,_,h=>by
  unfold TIn at h ⊢;obtain ⟨A,cA,B,cB,h1,h2,h3,h4,h5,css,h6,h7,h8⟩:=h;refine ⟨A,cA,B,cB,h1,h2,h3,h4,fun b o e hne=>hN b (h5 b o e hne) ?_,css,h6,fun b o e hne=>hN b (h7 b o e hne) ?_,TsIn.mono hN h8⟩
  ·cases ps with
   | nil=>exact absurd rfl hne
   | cons p ps=>
    obtain ⟨b',o',e',hb,_⟩:=h4.at_ (j:=0) (u:=strV p) rfl;rw [e] at e';cases e';exact hb
  ·have hl:=(q59 h8).2;cases l with
   | nil=>exact absurd rfl hne
   | cons y l=>
    cases hc:css.flatten with
    | nil=>rw [hc] at hl;simp at hl
    | cons u us=>
     obtain ⟨b',o',e',hb,_⟩:=h6.at_ (j:=0) (u:=u) (by rw [hc];rfl);rw [e] at e';cases e';exact hb
theorem TsIn.mono{N N':Nat->Prop}{w:World}(hN:∀ b,N b->b < w.heap.size->N' b):∀ {l:List Tr} {css:List (List Value)},TsIn N w l css->TsIn N' w l css
 | [],_,h=>by unfold TsIn at h ⊢;exact h
 | x :: l,_,h=>by
  unfold TsIn at h ⊢;obtain ⟨c,r,h1,h2,h3⟩:=h;exact ⟨c,r,h1,TIn.mono hN h2,TsIn.mono hN h3⟩
end
theorem q2r{N:Nat->Prop}{w:World}:∀ {l:List Tr} {css:List (List Value)} {l':List Tr} {css':List (List Value)},TsIn N w l css->TsIn N w l' css'->TsIn N w (l ++ l') (css ++ css')
 | [],_,_,_,h,h'=>by unfold TsIn at h;subst h;exact h'
 | x :: l,_,_,_,h,h'=>by
  unfold TsIn at h;obtain ⟨c,r,rfl,h2,h3⟩:=h;show TsIn N w (x :: (l ++ _)) (c :: (r ++ _));unfold TsIn;exact ⟨c,_,rfl,h2,q2r h3 h'⟩
theorem q1f{N:Nat->Prop}{w:World}{x:Tr}{c:List Value}(h:TIn N w x c):TsIn N w [x] [c]:=by
 unfold TsIn;exact ⟨c,[],rfl,h,V0z⟩
structure ArrT(e:TypeId)(lo:Nat)(w:World)(g c:Nat)(xs:List Tr):Prop where
 ex:∃ css,w.ownsRow lo e 6 (.slice (some ⟨g,0,none⟩) xs.length c) xs.length css.flatten/\TsIn (fun b=>lo<=b/\b≠g) w xs css
theorem q15{w:World}{lo:Nat}{e:TypeId}{size g n c:Nat}{xs:List Value}(h:w.ownsRow lo e size (.slice (some ⟨g,0,none⟩) n c) n xs):lo<=g/\g < w.heap.size:=by
 rcases h.2 with ⟨h,_⟩ | ⟨g',cap,cur,h,hb,hh,_⟩
 ·cases h
 ·cases h;exact V1Y
theorem q0Y{X:Nat->Prop}{w w':World}{base:Nat}{e:TypeId}{size n g c:Nat}{xs:List Value}(h:w.ownsRow base e size (.slice (some ⟨g,0,none⟩) n c) n xs)(hu:Upd X w w')(hX:¬ X g):w'.ownsRow base e size (.slice (some ⟨g,0,none⟩) n c) n xs:=by
 have hg:=(q15 h).2;obtain ⟨h1,h2⟩:=h;refine ⟨h1,?_⟩;rcases h2 with ⟨h2,_⟩ | ⟨g',cap,cur,e1,h3,h4,h5⟩
 ·cases h2
 ·cases e1;exact .inr ⟨g,_,cur,rfl,h3,(hu.block _ hg hX).trans h4,h5⟩
theorem ArrT.upd{X:Nat->Prop}{e:TypeId}{lo:Nat}{w w':World}{g c:Nat}{xs:List Tr}(h:ArrT e lo w g c xs)(hu:Upd X w w')(hX:∀ b,X b->b < lo):ArrT e lo w' g c xs:=by
 obtain ⟨css,h1,h2⟩:=h;have hg:=q15 h1;exact ⟨css,q0Y h1 hu fun hx=>by have:=hX g hx;omega,h2.upd hu fun b hb hx=>V11⟩
theorem ArrT.push{e:TypeId}{lo:Nat}{w w2 w3:World}{g c g' c':Nat}{xs:List Tr}{x:Tr}{cs:List Value}{css:List (List Value)}(h2:TsIn (fun b=>lo<=b/\b≠g) w2 xs css)
  (hx:TIn (fun b=>w.heap.size<=b) w2 x cs) (hg:g < w.heap.size) (hlo:lo<=w.heap.size) (h3:w3.ownsRow lo e 6 (.slice (some ⟨g',0,none⟩) (xs.length+1) c') (xs.length+1) (css.flatten ++ cs)) (h4:w2.grownBy w3 (Value.slice (some ⟨g,0,none⟩) xs.length c).ownBlock)
  (h5:some g'=(Value.slice (some ⟨g,0,none⟩) xs.length c).ownBlock\/g'=w2.heap.size):ArrT e lo w3 g' c' (xs ++ [x]):=by
 have hu:Upd (fun b=>b=g) w2 w3:=(Upd.refl _ w2).grown h4 fun k hk _=>VE
 have hg':∀ b,b≠g->b < w2.heap.size->b≠g':=fun b hb hs e=>by
  rcases h5 with h5 | h5
  ·cases h5;exact hb e
  ·omega
 refine ⟨css ++ [cs],?_,?_⟩
 ·rw [List.length_append,List.flatten_append];simpa using h3
 ·have a1:TsIn (fun b=>lo<=b/\b≠g/\b≠g') w2 xs css:=h2.mono fun b hb hs=>⟨hb.1,hb.2,hg' b hb.2 hs⟩
  have a2:TsIn (fun b=>lo<=b/\b≠g/\b≠g') w2 [x] [cs]:=q1f (hx.mono fun b hb hs=>⟨V0,V0,hg' b V0 hs⟩);refine ((q2r a1 a2).upd hu fun b hb e=>hb.2.1 e).mono fun b hb _=>⟨hb.1,hb.2.2⟩
theorem ArrT.first{e:TypeId}{lo:Nat}{w1:World}{x:Tr}{cs:List Value}(hT:TIn (fun b=>lo<=b) w1 x cs)(hlo:lo<=w1.heap.size):ArrT e lo (w1.alloc (.cells cs.toArray e)) w1.heap.size 1 [x]:=by
 refine ⟨[cs],?_,?_⟩
 ·have:=q1R w1 hlo e 6 1 cs (by rw [q3j hT]) V2;simpa using this
 ·exact (q1f (hT.mono (N':=fun b=>lo<=b/\b≠w1.heap.size) fun b hb hs=>⟨hb,V0⟩)).upd ((Upd.refl (fun _=>False) w1).alloc _) (fun _ _ h=>h)
theorem q1S{e:TypeId}{lo bp:Nat}{wr w1 w8:World}{g c g8 c8:Nat}{xs:List Tr}{css:List (List Value)}{x:Tr}{cs:List Value}(how:wr.ownsRow lo e 6 (.slice (some ⟨g,0,none⟩) xs.length c) xs.length css.flatten)(hts:TsIn (fun b=>lo<=b/\b≠g) wr xs css)(hlt:bp < lo)
  (hU:Upd (fun b=>b=bp) wr w1) (hT:TIn (fun b=>wr.heap.size<=b) w1 x cs) (hE:AppE lo e 6 (w1.alloc (.cells cs.toArray e)) (.slice (some ⟨g,0,none⟩) xs.length c) xs.length 1 (css.flatten ++ cs) g8 c8 w8) :
  ArrT e lo w8 g8 c8 (xs ++ [x])/\(∀ w,w.heap.size<=lo->Upd (fun b=>b=bp) w wr->Upd (fun b=>b=bp) w w8)/\Upd (fun b=>b=g) w1 w8:=by
 have hg:=q15 how;have ha:Upd (fun _=>False) w1 (w1.alloc (.cells cs.toArray e)):=(Upd.refl _ w1).alloc _;refine ⟨ArrT.push (w:=wr) ((hts.upd hU fun b hb e=>V0).upd ha fun _ _ h=>h) (hT.upd ha fun _ _ h=>h) hg.2 V0 hE.own hE.grown hE.at_,fun w hw hu=>?_,?_⟩
 ·exact ((hu.trans hU).alloc _).grown hE.grown fun k hk hs=>by
   cases hk;exact absurd hs (by show ¬ g < w.heap.size;omega)
 ·exact ((Upd.refl (fun b=>b=g) w1).alloc _).grown hE.grown fun k hk _=>VE
theorem ArrT.node{e:TypeId}{lo:Nat}{w:World}{g c:Nat}{xs:List Tr}(h:ArrT e lo w g c xs)(hl:xs.length<=100000)(k a n:Nat)(s:Bs):TIn (fun b=>lo<=b) w (.mk k a s n [] xs) (ndC k a s n (some ⟨g,0,none⟩) xs.length c none 0 0):=by
 obtain ⟨css,h1,h2⟩:=h;unfold TIn;refine ⟨_,_,none,0,rfl,own_cap h1 hl,⟨V3,V3,V2⟩,Lies.nil _ _,fun b o e=>Vw,css,?_,fun b o e _=>?_,h2.mono fun b hb _=>hb.1⟩
 ·rcases h1.2 with ⟨h,_⟩ | ⟨g',cap,cur,h,_⟩
  ·cases h
  ·exact fun j u hj=>⟨_,rfl,h1.cells (g:=g) rfl j u hj⟩
 ·cases e;exact (q15 h1).1
theorem q1T{N:Nat->Prop}(w:World)(k a n:Nat)(s:Bs):TIn N w (.mk k a s n [] []) (ndC k a s n none 0 0 none 0 0):=by
 unfold TIn;exact ⟨none,0,none,0,rfl,⟨V3,V3,V2⟩,⟨V3,V3,V2⟩,Lies.nil _ _,fun b o e=>Vw,[],Lies.nil _ _,fun b o e=>Vw,V0z⟩
end Pa
namespace Sh
open Go Go.ChangeShapes Go.WideShapes Go.ChangeAt Go.RowKit Lx Args Pa
inductive Tz
 | mk (k a:Int) (s:Bs) (n:Nat) (ps:List Bs) (l:List Tz)
def nzC(k a:Int)(s:Bs)(n:Nat)(A:Option Addr)(la cA:Nat)(B:Option Addr)(lb cB:Nat):List Value:=
 [.int .i64 k,.string ⟨s.toArray⟩,.int .u32 (n:Int),.int .i64 a,.slice A la cA,.slice B lb cB]
mutual
def TIc(q:Prop)(w:World):Tz->List Value->Prop
 | .mk k a s n ps l,cs=>∃ A cA B cB,cs=nzC k a s n A l.length cA B ps.length cB/\l.length<=maxLen/\ps.length<=maxLen/\Lies w B (ps.map strV) /\
   ∃ css,Lies w A css.flatten/\TsIc q w l css/\(q->(l.length<=cA/\cA<=maxLen)/\ps.length<=cB/\cB<=maxLen)
def TsIc(q:Prop)(w:World):List Tz->List (List Value)->Prop
 | [],css=>css=[]
 | x :: l,css=>∃ c r,css=c :: r/\TIc q w x c/\TsIc q w l r
end
abbrev TIz(w:World):Tz->List Value->Prop:=TIc False w
abbrev TsIz(w:World):List Tz->List (List Value)->Prop:=TsIc False w
mutual
def nz:Tz->Prop
 | .mk _ _ _ n _ l=>n < 4294967296/\nzs l
def nzs:List Tz->Prop
 | []=>True
 | x :: l=>nz x/\nzs l
end
section
variable {H : Type} {enc : TypeId × Value -> H} {w : World} {base : Nat} {spare : Nat -> Bool} {held : Bool}
end
end Sh
namespace Sh
open Lx Pa
mutual
def cntz:Tz->Nat
 | .mk _ _ _ _ _ l=>1+cnts l
def cnts:List Tz->Nat
 | []=>0
 | x :: l=>cntz x+cnts l
end
mutual
def embz:Tr->Tz
 | .mk k a s n ps l=>.mk (k:Int) (a:Int) s n ps (embs l)
def embs:List Tr->List Tz
 | []=>[]
 | x :: l=>embz x :: embs l
end
theorem q2s:∀ l:List Tr,(embs l).length=l.length
 | []=>rfl
 | x :: l=>by unfold embs;simp [q2s l]
mutual
def exT(dec:Nat->Bs):Tz->Bs
 | .mk k _ s n _ l=>if k = 0 then dec n else if k = 1 then s else if k = 2 then s ++ liT dec [] true true l else if k = 5 then s ++ [40] ++ liT dec [44,32] false true l ++ [41] else liT dec ([32] ++ s ++ [32]) true true l
def liT(dec:Nat->Bs)(bt:Bs)(op first:Bool):List Tz->Bs
 | []=>[]
 | x :: l=>(if first then [] else bt) ++ opT dec op x ++ liT dec bt op false l
def opT(dec:Nat->Bs)(op:Bool):Tz->Bs
 | .mk k _ s n _ l=>
  let t:=if k = 0 then dec n else if k = 1 then s else if k = 2 then s ++ liT dec [] true true l else if k = 5 then s ++ [40] ++ liT dec [44,32] false true l ++ [41] else liT dec ([32] ++ s ++ [32]) true true l
  if op && !(decide (k = 0) || decide (k = 1) || decide (k = 5)) then [40] ++ t ++ [41] else t
end
end Sh
namespace Nm
open Lx Pa Sh
abbrev Kn:=Bs->Option (Nat×Nat)
def Kn.put(kn:Kn)(s:Bs)(m:Nat×Nat):Kn:=fun t=>if t=s then some m else kn t
def Kn.dels(kn:Kn)(l:List Bs):Kn:=fun t=>if t∈l then none else kn t
structure St where
 kn:Kn
 en:List Bs
 se:List Bs
 pu:List Bs
 ou:List (Bs×Bool)
def isB(kn:Kn)(s:Bs)(l:List Nat):Bool:=match kn s with | none=>false | some m=>l.contains m.1
def namedB(kn:Kn)(s:Bs):Bool:=(kn s).isSome
def wordB(kn:Kn)(s:Bs):Bool:=match kn s with | none=>false | some m=>!decide (m.1 = 1)
def callB(kn:Kn)(s:Bs)(p:Nat):Bool:=match kn s with | none=>false | some m=>decide (m.1 = 1) && decide (m.2=p)
inductive Rs
 | ok (c:St)
 | bad (a:Int)
def bndR(r:Rs)(f:St->Rs):Rs:=match r with | .bad a=>.bad a | .ok c=>f c
mutual
def exB(isN:Bs->Bool)(cal:Bs->Nat->Bool):Tz->Option Int
 | .mk k a s _ _ l=>if (k = 1/\isN s=false)\/(k = 5/\cal s l.length=false) then some a else exBs isN cal l
def exBs(isN:Bs->Bool)(cal:Bs->Nat->Bool):List Tz->Option Int
 | []=>none
 | x :: l=>match exB isN cal x with | some a=>some a | none=>exBs isN cal l
end
def inB(a:Int):List Bs->St->Rs
 | [],c=>.ok c
 | s :: l,c=>if namedB c.kn s=true then .bad a else inB a l { c with kn:=c.kn.put s (0,0),en:=c.en ++ [s] }
def paB(kn:Kn)(f:Bs):List Bs->List Bs->Bool
 | _,[]=>true
 | sn,s :: l=>if (s==f || isB kn s [1] || sn.contains s)=true then false else paB kn f (sn ++ [s]) l
def exR(o:Option Int)(r:Rs):Rs:=match o with | some a=>.bad a | none=>r
mutual
def stB:Tz->St->Rs
 | .mk k a s n ps l,c=>
  if k = 6 then bndR (inB a ps c) fun d=>.ok { d with se:=d.se ++ ps }
  else if k = 7 then bndR (inB a ps c) fun d=>.ok { d with pu:=d.pu ++ ps }
  else if k = 12 then
   if namedB c.kn s=true then .bad a else if paB c.kn s [] ps=false then .bad a else
   exR (exBs (fun t=>ps.contains t) (callB c.kn) (l.take 1)) (.ok { c with kn:=c.kn.put s (1,ps.length) })
  else if k = 10 then
   exR (exBs (wordB c.kn) (callB c.kn) (l.take 1)) (if isB c.kn s [0,1,3]=true then .bad a else if isB c.kn s [2]=true then .ok c else .ok { c with kn:=c.kn.put s (2,0),en:=c.en ++ [s] })
  else if k = 8\/k = 9 then
   exR (exBs (wordB c.kn) (callB c.kn) (l.take 1)) (if (c.ou.map (·.1)).contains s=true then .bad a else .ok { c with ou:=c.ou ++ [(s,decide (k = 9))] })
  else if k = 11 then
   exR (exBs (wordB c.kn) (callB c.kn) (l.take 2)) (if namedB c.kn s=true then .bad a else
    bndR (stBs 2 l { c with kn:=c.kn.put s (3,0),en:=c.en ++ [s] }) fun d=>.ok { d with kn:=d.kn.dels (d.en.drop c.en.length),en:=d.en.take c.en.length })
  else .ok c
def stBs:Nat->List Tz->St->Rs
 | _,[],c=>.ok c
 | 0,x :: l,c=>bndR (stB x c) fun d=>stBs 0 l d
 | i+1,_ :: l,c=>stBs i l c
end
theorem q3O:∀ (i:Nat) (l:List Tz) (c:St),stBs i l c=stBs 0 (l.drop i) c
 | 0,l,c=>by rw [List.drop_zero]
 | i+1,[],c=>by simp [stBs]
 | i+1,x :: l,c=>by rw [List.drop_succ_cons,<-q3O i l c];conv=>lhs;unfold stBs
theorem q1U(x:Tz)(l:List Tz)(c:St):stBs 0 (x :: l) c=bndR (stB x c) fun d=>stBs 0 l d:=by conv=>lhs;unfold stBs
theorem q3k(i:Nat)(c:St):stBs i [] c = .ok c:=by unfold stBs;rfl
def sel:Bs:=[115,101,108]
def init:St:={ kn:=Kn.put (fun _=>none) sel (1,3),en:=[],se:=[],pu:=[],ou:=[] }
def lz:Tz->List Tz
 | .mk _ _ _ _ _ l=>l
def ckB(z:Tz):Rs:=stBs 0 (lz z) init
def Sorts(kn:Kn):Prop:=∀ s m,kn s=some m->m.1<=3
structure Ext(c d:St):Prop where
 kn:∀ s m,c.kn s=some m->d.kn s=some m
 en:∃ e,d.en=c.en ++ e/\(∀ s∈e,c.kn s=none/\∃ m,d.kn s=some m/\m.1≠1)/\∀ s m,d.kn s=some m->c.kn s=none->m.1≠1->s∈e
theorem Ext.refl(c:St):Ext c c:=⟨fun _ _ h=>h,[],V3,V3,fun s m h h'=>by rw [h'] at h;cases h⟩
theorem Ext.trans{c d f:St}(h:Ext c d)(h':Ext d f):Ext c f:=by
 obtain ⟨e,he,h1,h3⟩:=h.en;obtain ⟨e',he',h1',h3'⟩:=h'.en;refine ⟨fun s m hs=>h'.kn s m (h.kn s m hs),e ++ e',by rw [he',he,List.append_assoc],fun s hs=>?_,fun s m hs hn hm=>?_⟩
 ·rcases List.mem_append.1 hs with hs | hs
  ·obtain ⟨a,m,b,b'⟩:=h1 s hs;exact ⟨a,m,h'.kn s m b,b'⟩
  ·obtain ⟨a,b⟩:=h1' s hs;refine ⟨?_,b⟩;cases hc:c.kn s with
   | none=>rfl
   | some m=>rw [h.kn s m hc] at a;cases a
 ·cases hd:d.kn s with
  | none=>exact List.mem_append_right _ (h3' s m hs hd hm)
  | some m'=>
   have:=h'.kn s m' hd;rw [this] at hs;cases hs;exact List.mem_append_left _ (h3 s _ hd hn hm)
theorem q16{kn:Kn}{s:Bs}(h:¬ namedB kn s=true):kn s=none:=by
 unfold namedB at h;cases hk:kn s with
 | none=>rfl
 | some m=>rw [hk] at h;simp at h
theorem Ext.new{c d:St}{s:Bs}{m:Nat×Nat}(hn:c.kn s=none)(hm:m.1≠1)(hk:d.kn=c.kn.put s m)(he:d.en=c.en ++ [s]):Ext c d:=by
 refine ⟨fun t m' ht=>?_,[s],he,fun t ht=>?_,fun t m' ht hc hm'=>?_⟩
 ·exact V46
 ·obtain rfl:=List.mem_singleton.1 ht;exact ⟨hn,m,by rw [hk];unfold Kn.put;rw [if_pos rfl],hm⟩
 ·rw [hk] at ht;unfold Kn.put at ht;by_cases hts:t=s
  ·subst hts;simp
  ·rw [if_neg hts,hc] at ht;cases ht
theorem Ext.fn{c d:St}{s:Bs}{p:Nat}(hn:c.kn s=none)(hk:d.kn=c.kn.put s (1,p))(he:d.en=c.en):Ext c d:=by
 refine ⟨fun t m' ht=>?_,[],by rw [he];simp,V3,fun t m' ht hc hm'=>?_⟩
 ·exact V46
 ·rw [hk] at ht;unfold Kn.put at ht;by_cases hts:t=s
  ·rw [if_pos hts] at ht;cases ht;exact absurd rfl hm'
  ·rw [if_neg hts,hc] at ht;cases ht
theorem Ext.same{c d:St}(hk:d.kn=c.kn)(he:d.en=c.en):Ext c d:=
 ⟨fun s m h=>by rw [hk];exact h,[],by rw [he];simp,V3,fun s m h h'=>by rw [hk,h'] at h;cases h⟩
theorem Ext.loop{c c1 d f:St}{s:Bs}{m:Nat×Nat}(hn:c.kn s=none)(hm:m.1≠1)(hk:c1.kn=c.kn.put s m)(he:c1.en=c.en ++ [s])(h:Ext c1 d)(hf:f.kn=d.kn.dels (d.en.drop c.en.length))(hfe:f.en=d.en.take c.en.length):Ext c f:=by
 have h0:=(Ext.new hn hm hk he).trans h;obtain ⟨e,h1,h2,h4⟩:=h0.en;have hd:d.en.drop c.en.length=e:=by rw [h1];simp
 have ht:d.en.take c.en.length=c.en:=by rw [h1];simp
 rw [hd] at hf;rw [ht] at hfe;refine ⟨fun t m' htm=>?_,[],by rw [hfe];simp,V3,fun t m' htm hc hm'=>?_⟩
 ·rw [hf];unfold Kn.dels;rw [if_neg (fun hh=>by rw [(h2 t hh).1] at htm;cases htm)];exact h0.kn t m' htm
 ·rw [hf] at htm;unfold Kn.dels at htm;by_cases hte:t∈e
  ·rw [if_pos hte] at htm;cases htm
  ·rw [if_neg hte] at htm;exact absurd (h4 t m' htm hc hm') hte
theorem q2n{r:Rs}{f:St->Rs}{d:St}(h:bndR r f = .ok d):∃ c,r = .ok c/\f c = .ok d:=by
 cases r with
 | bad a=>cases h
 | ok c=>exact ⟨c,rfl,h⟩
theorem q1n{o:Option Int}{r:Rs}{d:St}(h:exR o r = .ok d):o=none/\r = .ok d:=by
 cases o with
 | none=>exact ⟨rfl,h⟩
 | some a=>cases h
theorem q3l{a:Int}:∀ {ps:List Bs} {c d:St},inB a ps c = .ok d->Ext c d/\d.se=c.se/\d.pu=c.pu/\d.ou=c.ou
 | [],c,d,h=>by unfold inB at h;cases h;exact ⟨.refl _,rfl,rfl,rfl⟩
 | s :: l,c,d,h=>by
  unfold inB at h;by_cases hb:namedB c.kn s=true
  ·exact VY
  ·rw [if_neg hb] at h;obtain ⟨h1,h2,h3,h4⟩:=q3l h;exact ⟨(Ext.new (q16 hb) V2 rfl rfl).trans h1,h2,h3,h4⟩
theorem q7B{kn:Kn}{s:Bs}(h1:¬ isB kn s [0,1,3]=true)(h2:¬ isB kn s [2]=true)(hs:Sorts kn):kn s=none:=by
 cases hk:kn s with
 | none=>rfl
 | some m=>
  exfalso;have:=hs s m hk;unfold isB at h1 h2;rw [hk] at h1 h2;simp at h1 h2;omega
theorem Sorts.put{kn:Kn}(h:Sorts kn){s:Bs}{m:Nat×Nat}(hm:m.1<=3):Sorts (kn.put s m):=fun t m' ht=>by
 unfold Kn.put at ht;by_cases e:t=s
 ·rw [if_pos e] at ht;cases ht;exact hm
 ·rw [if_neg e] at ht;exact h t m' ht
theorem Sorts.dels{kn:Kn}(h:Sorts kn)(l:List Bs):Sorts (kn.dels l):=fun t m' ht=>by
 unfold Kn.dels at ht;by_cases e:t∈l
 ·rw [if_pos e] at ht;cases ht
 ·rw [if_neg e] at ht;exact h t m' ht
theorem q3P{a:Int}:∀ {ps:List Bs} {c d:St},inB a ps c = .ok d->Sorts c.kn->Sorts d.kn
 | [],c,d,h,hs=>by unfold inB at h;cases h;exact hs
 | s :: l,c,d,h,hs=>by
  unfold inB at h;by_cases hb:namedB c.kn s=true
  ·exact VY
  ·rw [if_neg hb] at h;exact q3P h (hs.put V2)
mutual
theorem q3m:∀ {z:Tz} {c d:St},stB z c = .ok d->Sorts c.kn->Ext c d/\Sorts d.kn
 | .mk k a s n ps l,c,d,h,hs=>by
  unfold stB at h;by_cases h6:k = 6
  ·rw [if_pos h6] at h;exact V3l
  rw [if_neg h6] at h;by_cases h7:k = 7
  ·rw [if_pos h7] at h;exact V3l
  rw [if_neg h7] at h;by_cases h12:k = 12
  ·rw [if_pos h12] at h;by_cases hb:namedB c.kn s=true
   ·exact VY
   rw [if_neg hb] at h;by_cases hp:paB c.kn s [] ps=false
   ·rw [if_pos hp] at h;cases h
   rw [if_neg hp] at h;obtain ⟨_,h2⟩:=q1n h;cases h2;exact ⟨Ext.fn (q16 hb) rfl rfl,hs.put (by show 1<=3;decide)⟩
  rw [if_neg h12] at h;by_cases h10:k = 10
  ·rw [if_pos h10] at h;obtain ⟨_,h2⟩:=q1n h;by_cases hb:isB c.kn s [0,1,3]=true
   ·exact VK
   rw [if_neg hb] at h2;by_cases hv:isB c.kn s [2]=true
   ·rw [if_pos hv] at h2;cases h2;exact ⟨.refl _,hs⟩
   rw [if_neg hv] at h2;cases h2;exact ⟨Ext.new (q7B hb hv hs) V2 rfl rfl,hs.put V2⟩
  rw [if_neg h10] at h;by_cases h8:k = 8\/k = 9
  ·rw [if_pos h8] at h;obtain ⟨_,h2⟩:=q1n h;by_cases hb:(c.ou.map (·.1)).contains s=true
   ·exact VK
   rw [if_neg hb] at h2;cases h2;exact ⟨Ext.same rfl rfl,hs⟩
  rw [if_neg h8] at h;by_cases h11:k = 11
  ·rw [if_pos h11] at h;obtain ⟨_,h2⟩:=q1n h;by_cases hb:namedB c.kn s=true
   ·exact VK
   rw [if_neg hb] at h2;obtain ⟨c1,h3,h4⟩:=q2n h2;cases h4;obtain ⟨h5,h6'⟩:=q1D h3 (hs.put V2);exact ⟨Ext.loop (m:=(3,0)) (q16 hb) V2 rfl rfl h5 rfl rfl,h6'.dels _⟩
  rw [if_neg h11] at h;cases h;exact ⟨.refl _,hs⟩
theorem q1D:∀ {i:Nat} {l:List Tz} {c d:St},stBs i l c = .ok d->Sorts c.kn->Ext c d/\Sorts d.kn
 | _,[],c,d,h,hs=>by rw [q3k] at h;cases h;exact ⟨.refl _,hs⟩
 | 0,x :: l,c,d,h,hs=>by
  rw [q1U] at h;obtain ⟨c1,h1,h2⟩:=q2n h;obtain ⟨h3,h4⟩:=q3m h1 hs;obtain ⟨h5,h6⟩:=q1D h2 h4;exact ⟨h3.trans h5,h6⟩
 | i+1,x :: l,c,d,h,hs=>by
  unfold stBs at h;exact q1D h hs
end
theorem Ext.len{c d:St}(h:Ext c d):c.en.length<=d.en.length:=by
 obtain ⟨e,he,_⟩:=h.en;rw [he];simp
/-! An output that is left out. -/
end Nm
namespace Nm
open Go Go.ChangeShapes Go.WideShapes Go.ChangeAt Go.RowKit Lx Args Pa Sh
def meanR:Value->Option (DataW Unit×List MemPlace)
 | .agg cs=>match cs.toList with
  | [.int .i64 a,.int .i64 p]=>some (.agg [.lit (.int .i64 a),.lit (.int .i64 p)],[])
  | _=>none
 | _=>none
def mD(m:Nat×Nat):DataW Unit:=.agg [.lit (.int .i64 (m.1:Int)),.lit (.int .i64 (m.2:Int))]
theorem q3n(a p:Int):meanR (.agg #[.int .i64 a,.int .i64 p])=some (.agg [.lit (.int .i64 a),.lit (.int .i64 p)],[]):=by simp [meanR]
theorem q3Q{v:Value}{m:Nat×Nat}{ps:List MemPlace}(h:meanR v=some (mD m,ps)):v = .agg #[.int .i64 (m.1:Int),.int .i64 (m.2:Int)]:=by
 unfold meanR at h;split at h
 ·rename_i cs;split at h
  ·rename_i a p hcs;simp only [Option.some.injEq,Prod.mk.injEq,mD,DataW.agg.injEq,List.cons.injEq,DataW.lit.injEq,Lit.int.injEq,true_and,and_true] at h;obtain ⟨⟨rfl,rfl⟩,_⟩:=h;have:cs=[Value.int .i64 (m.1:Int),.int .i64 (m.2:Int)].toArray:=by rw [<-hcs]
   rw [this]
  ·cases h
 ·cases h
theorem uStr:Tryz.prog.underlying 9=some .string:=V1
theorem law:Maps.Keyed Tryz.prog 9:=Maps.string_keyed uStr
theorem q1s{s:Bs}(hs:s.length<=maxLen):keyOf Tryz.prog 9 (.string ⟨s.toArray⟩)=some (.string s):=by
 have:=WideMaps.keyOf_string_mk (P:=Tryz.prog) (k:=9) uStr (s:=⟨s.toArray⟩) (by simpa [ByteArray.size] using hs);simpa using this
theorem isKeyS(s:Bs):WideAt.IsKeyLit (.string s):=trivial
theorem q1V{s t:Bs}(h:t≠s):(Lit.string t)≠.string s:=fun e=>h Vu
structure MpK(w:World)(b n:Nat)(kn:Kn):Prop where
 ex:∃ D:DataW Unit,w.ownsMap Tryz.prog 9 meanR b n D/\∀ s:Bs,s.length<=maxLen->Maps.has D (.string s)=(kn s).isSome/\∀ m,kn s=some m->∀ z,D.atKey (.string s) z=mD m
 sorts:∀ s m,kn s=some m->m.1<=3/\m.2<=maxLen
structure MpS(w:World)(b n:Nat)(f:Bs->Bool):Prop where
 ex:∃ D:DataW Unit,w.ownsMap Tryz.prog 9 (unitElem (H:=Unit)) b n D/\∀ s:Bs,s.length<=maxLen->Maps.has D (.string s)=f s
theorem zMn(w:World):(zeroValue 104).run Tryz.prog w = .ok (.agg #[.int .i64 0,.int .i64 0]) w:=V1
theorem zUn(w:World):(zeroValue 229).run Tryz.prog w = .ok (.agg #[]) w:=V1
section
variable {w w' : World} {b n : Nat} {kn : Kn} {f : Bs -> Bool} {s : Bs}
theorem MpK.lt(h:MpK w b n kn):b < w.heap.size:=by obtain ⟨D,h1,_⟩:=h.ex;exact h1.lt
theorem MpS.lt(h:MpS w b n f):b < w.heap.size:=by obtain ⟨D,h1⟩:=h.ex;exact h1.1.lt
theorem q3o{R:Value->Option (DataW Unit×List MemPlace)}{D:DataW Unit}(h:w.ownsMap Tryz.prog 9 R b n D)(e:w'.heap[b]?=w.heap[b]?):w'.ownsMap Tryz.prog 9 R b n D:=by
 obtain ⟨es,clock,hb,h2⟩:=h;exact ⟨es,clock,e.trans hb,h2⟩
theorem MpK.heap(h:MpK w b n kn)(e:w'.heap[b]?=w.heap[b]?):MpK w' b n kn:=by
 obtain ⟨D,h1,h2⟩:=h.ex;exact ⟨⟨D,q3o h1 e,h2⟩,h.sorts⟩
theorem MpS.heap(h:MpS w b n f)(e:w'.heap[b]?=w.heap[b]?):MpS w' b n f:=by
 obtain ⟨D,h1,h2⟩:=h.ex;exact ⟨⟨D,q3o h1 e,h2⟩⟩
theorem MpK.upd{X:Nat->Prop}(h:MpK w b n kn)(hu:Upd X w w')(hx:¬ X b):MpK w' b n kn:=h.heap (hu.block b h.lt hx)
theorem MpS.upd{X:Nat->Prop}(h:MpS w b n f)(hu:Upd X w w')(hx:¬ X b):MpS w' b n f:=h.heap (hu.block b h.lt hx)
theorem MpK.mono(h:MpK w b n kn){m:Nat}(hm:n<=m):MpK w b m kn:=by
 obtain ⟨D,h1,h2⟩:=h.ex;exact ⟨⟨D,h1.mono hm,h2⟩,h.sorts⟩
theorem MpS.mono(h:MpS w b n f){m:Nat}(hm:n<=m):MpS w b m f:=by
 obtain ⟨D,h1,h2⟩:=h.ex;exact ⟨⟨D,h1.mono hm,h2⟩⟩
def kAt(kn:Kn)(s:Bs):Nat×Nat:=(kn s).getD (0,0)
theorem MpK.val(h:MpK w b n kn)(hs:s.length<=maxLen){D:DataW Unit}(hD:∀ s:Bs,s.length<=maxLen->Maps.has D (.string s)=(kn s).isSome/\∀ m,kn s=some m->∀ z,D.atKey (.string s) z=mD m){v:Value}{ps:List MemPlace}
  (hv:meanR v=some (D.atKey (.string s) (mD (0,0)),ps)):v = .agg #[.int .i64 ((kAt kn s).1:Int),.int .i64 ((kAt kn s).2:Int)]:=by
 obtain ⟨h1,h2⟩:=hD s hs;unfold kAt;cases hk:kn s with
 | none=>
  rw [hk] at h1;rw [Maps.atKey_of_not_has h1] at hv;exact q3Q hv
 | some m=>
  rw [h2 m hk] at hv;exact q3Q hv
theorem MpK.look(h:MpK w b n kn)(hs:s.length<=maxLen):(Instr.lookup 105 (.map (some b)) (.string ⟨s.toArray⟩) true).run Tryz.prog w = .ok (.tuple #[.agg #[.int .i64 ((kAt kn s).1:Int),.int .i64 ((kAt kn s).2:Int)],.bool (kn s).isSome]) w:=by
 obtain ⟨D,h1,h2⟩:=h.ex;obtain ⟨v,ps,hr,hv⟩:=h1.look_ok law Tryz.underlying105 (zMn w) (zd:=mD (0,0)) (q3n 0 0) (q1s hs);rw [hr,h.val hs h2 hv,(h2 s hs).1]
theorem MpK.look1(h:MpK w b n kn)(hs:s.length<=maxLen):(Instr.lookup 105 (.map (some b)) (.string ⟨s.toArray⟩) false).run Tryz.prog w = .ok (.agg #[.int .i64 ((kAt kn s).1:Int),.int .i64 ((kAt kn s).2:Int)]) w:=by
 obtain ⟨D,h1,h2⟩:=h.ex;obtain ⟨v,ps,hr,hv⟩:=h1.lookup law Tryz.underlying105 (zMn w) (zd:=mD (0,0)) (q3n 0 0) (q1s hs);rw [hr,h.val hs h2 hv]
theorem MpS.look(h:MpS w b n f)(hs:s.length<=maxLen):(Instr.lookup 107 (.map (some b)) (.string ⟨s.toArray⟩) true).run Tryz.prog w = .ok (.tuple #[.agg #[],.bool (f s)]) w:=by
 obtain ⟨D,h1,h2⟩:=h.ex;obtain ⟨v,ps,hr,hv⟩:=h1.look_ok law Tryz.underlying107 (zUn w) (zd:=.agg []) unitElem_mk (q1s hs);obtain ⟨rfl,_⟩:=unitElem_inv hv;rw [hr,h2 s hs]
theorem q08{X:Nat->Prop}(h:w.mapTurned w' b)(hx:X b):Upd X w w':=(Upd.refl X w).grown h.grown fun k hk _=>by cases hk;exact hx
theorem MpK.put(h:MpK w b n kn)(hs:s.length<=maxLen)(hn:n < maxLen)(m:Nat×Nat)(hm:m.1<=3)(hm2:m.2<=maxLen) :
  ∃ w',(Instr.mapUpdate 105 (.map (some b)) (.string ⟨s.toArray⟩) (.agg #[.int .i64 (m.1:Int),.int .i64 (m.2:Int)])).run Tryz.prog w = .ok () w'/\MpK w' b (n+1) (kn.put s m)/\w.mapTurned w' b:=by
 obtain ⟨D,h1,h2⟩:=h.ex;obtain ⟨w',hr,h3,h4⟩:=h1.store law Tryz.underlying105 hn (q1s hs) (d:=mD m) (q3n _ _);refine ⟨w',hr,⟨⟨_,h3,fun t ht=>?_⟩,fun t m' ht=>?_⟩,h4⟩
 ·unfold Kn.put;by_cases e:t=s
  ·exact V33
  ·rw [if_neg e];refine ⟨(Maps.has_put_other (q1V e) _).trans (h2 t ht).1,fun m' hm' z=>(Maps.atKey_put_other (q1V e) _ _).trans ((h2 t ht).2 m' hm' z)⟩
 ·unfold Kn.put at ht;by_cases e:t=s
  ·rw [if_pos e] at ht;cases ht;exact ⟨hm,hm2⟩
  ·rw [if_neg e] at ht;exact h.sorts t m' ht
theorem MpK.del(h:MpK w b n kn)(hs:s.length<=maxLen)(ty:TypeId) :
  ∃ w',(Builtin.delete_ #[105,9] ty #[.map (some b),.string ⟨s.toArray⟩]).run Tryz.prog w = .ok (.tuple #[]) w'/\MpK w' b n (kn.dels [s])/\w.mapTurned w' b:=by
 obtain ⟨D,h1,h2⟩:=h.ex;obtain ⟨w',hr,h3,h4⟩:=h1.drop law Tryz.underlying105 (q1s hs) ty;refine ⟨w',hr,⟨⟨_,h3,fun t ht=>?_⟩,fun t m' ht=>?_⟩,h4⟩
 ·unfold Kn.dels;by_cases e:t=s
  ·subst e;rw [if_pos V3];exact ⟨Maps.has_del_same,fun m' hm'=>by cases hm'⟩
  ·rw [if_neg V0A];exact V3j
 ·unfold Kn.dels at ht;by_cases e:t∈[s]
  ·rw [if_pos e] at ht;cases ht
  ·rw [if_neg e] at ht;exact h.sorts t m' ht
theorem MpS.put(h:MpS w b n f)(hs:s.length<=maxLen)(hn:n < maxLen) :
  ∃ w',(Instr.mapUpdate 107 (.map (some b)) (.string ⟨s.toArray⟩) (.agg #[])).run Tryz.prog w = .ok () w'/\MpS w' b (n+1) (fun t=>f t || t==s)/\w.mapTurned w' b:=by
 obtain ⟨D,h1,h2⟩:=h.ex;obtain ⟨w',hr,h3,h4⟩:=h1.store law Tryz.underlying107 hn (q1s hs) (d:=.agg []) unitElem_mk;refine ⟨w',hr,⟨⟨_,h3,fun t ht=>?_⟩⟩,h4⟩;by_cases e:t=s
 ·subst e;rw [Maps.has_put_same h1.isMap (isKeyS _)];simp
 ·rw [Maps.has_put_other (q1V e),h2 t ht];have:(t==s)=false:=V0A;rw [this,Bool.or_false]
theorem MpK.made(w:World):MpK (w.alloc (.map #[] 0)) w.heap.size 0 (fun _=>none):=
 ⟨⟨_,World.ownsMap_made w _ _ _,fun s _=>⟨rfl,fun m hm=>by cases hm⟩⟩,fun s m hm=>by cases hm⟩
theorem MpS.made(w:World):MpS (w.alloc (.map #[] 0)) w.heap.size 0 (fun _=>false):=⟨⟨_,World.ownsMap_made w _ _ _,fun s _=>rfl⟩⟩
end
end Nm
namespace Fl
open Go Go.ChangeShapes Go.WideShapes Go.ChangeAt Go.RowKit Lx Args Pa Sh Go.Proofs.YtcgibpdjfgjldaaGreatDoor.Nm
structure Cod(α:Type) where
 enc:α->Value
 dat:α->DataW Unit
 rd:Value->Option (DataW Unit×List MemPlace)
 rd_enc:∀ a,rd (enc a)=some (dat a,[])
 inv:∀ v a ps,rd v=some (dat a,ps)->v=enc a
def MpG{α:Type}(c:Cod α)(w:World)(b n:Nat)(kn:Bs->Option α):Prop:=
 ∃ D:DataW Unit,w.ownsMap Tryz.prog 9 c.rd b n D/\∀ s:Bs,s.length<=maxLen->Maps.has D (.string s)=(kn s).isSome/\∀ m,kn s=some m->∀ z,D.atKey (.string s) z=c.dat m
section
variable {α : Type} {c : Cod α} {w w' : World} {b n : Nat} {kn : Bs -> Option α} {s : Bs} {T E : TypeId}
theorem MpG.lt(h:MpG c w b n kn):b < w.heap.size:=by obtain ⟨D,h1,_⟩:=h;exact h1.lt
theorem MpG.heap(h:MpG c w b n kn)(e:w'.heap[b]?=w.heap[b]?):MpG c w' b n kn:=by
 obtain ⟨D,h1,h2⟩:=h;exact ⟨D,q3o h1 e,h2⟩
theorem MpG.upd{X:Nat->Prop}(h:MpG c w b n kn)(hu:Upd X w w')(hx:¬ X b):MpG c w' b n kn:=h.heap (hu.block b h.lt hx)
theorem MpG.mono(h:MpG c w b n kn){m:Nat}(hm:n<=m):MpG c w b m kn:=by
 obtain ⟨D,h1,h2⟩:=h;exact ⟨D,h1.mono hm,h2⟩
theorem MpG.val{z0:α}(hs:s.length<=maxLen){D:DataW Unit}(hD:∀ s:Bs,s.length<=maxLen->Maps.has D (.string s)=(kn s).isSome/\∀ m,kn s=some m->∀ z,D.atKey (.string s) z=c.dat m){v:Value}{ps:List MemPlace}
  (hv:c.rd v=some (D.atKey (.string s) (c.dat z0),ps)):v=c.enc ((kn s).getD z0):=by
 obtain ⟨h1,h2⟩:=hD s hs;cases hk:kn s with
 | none=>
  rw [hk] at h1;rw [Maps.atKey_of_not_has h1] at hv;exact c.inv _ _ _ hv
 | some m=>
  rw [h2 m hk] at hv;exact c.inv _ _ _ hv
theorem MpG.look(h:MpG c w b n kn)(hs:s.length<=maxLen)(hT:Tryz.prog.underlying T=some (.map 9 E)){z0:α}(hz:(zeroValue E).run Tryz.prog w = .ok (c.enc z0) w) :
  (Instr.lookup T (.map (some b)) (.string ⟨s.toArray⟩) true).run Tryz.prog w = .ok (.tuple #[c.enc ((kn s).getD z0),.bool (kn s).isSome]) w:=by
 obtain ⟨D,h1,h2⟩:=h;obtain ⟨v,ps,hr,hv⟩:=h1.look_ok law hT hz (zd:=c.dat z0) (c.rd_enc z0) (q1s hs);rw [hr,MpG.val hs h2 hv,(h2 s hs).1]
theorem MpG.look1(h:MpG c w b n kn)(hs:s.length<=maxLen)(hT:Tryz.prog.underlying T=some (.map 9 E)){z0:α}(hz:(zeroValue E).run Tryz.prog w = .ok (c.enc z0) w) :
  (Instr.lookup T (.map (some b)) (.string ⟨s.toArray⟩) false).run Tryz.prog w = .ok (c.enc ((kn s).getD z0)) w:=by
 obtain ⟨D,h1,h2⟩:=h;obtain ⟨v,ps,hr,hv⟩:=h1.lookup law hT hz (zd:=c.dat z0) (c.rd_enc z0) (q1s hs);rw [hr,MpG.val hs h2 hv]
theorem MpG.put(h:MpG c w b n kn)(hs:s.length<=maxLen)(hn:n < maxLen)(hT:Tryz.prog.underlying T=some (.map 9 E))(m:α) :
  ∃ w',(Instr.mapUpdate T (.map (some b)) (.string ⟨s.toArray⟩) (c.enc m)).run Tryz.prog w = .ok () w'/\MpG c w' b (n+1) (fun t=>if t=s then some m else kn t)/\w.mapTurned w' b:=by
 obtain ⟨D,h1,h2⟩:=h;obtain ⟨w',hr,h3,h4⟩:=h1.store law hT hn (q1s hs) (d:=c.dat m) (c.rd_enc m);refine ⟨w',hr,⟨_,h3,fun t ht=>?_⟩,h4⟩;dsimp only;by_cases e:t=s
 ·exact V33
 ·rw [if_neg e];refine ⟨(Maps.has_put_other (q1V e) _).trans (h2 t ht).1,fun m' hm' z=>?_⟩;exact (Maps.atKey_put_other (q1V e) _ _).trans ((h2 t ht).2 m' hm' z)
theorem MpG.del(h:MpG c w b n kn)(hs:s.length<=maxLen)(hT:Tryz.prog.underlying T=some (.map 9 E))(ty:TypeId) :
  ∃ w',(Builtin.delete_ #[T,9] ty #[.map (some b),.string ⟨s.toArray⟩]).run Tryz.prog w = .ok (.tuple #[]) w'/\MpG c w' b n (fun t=>if t=s then none else kn t)/\w.mapTurned w' b:=by
 obtain ⟨D,h1,h2⟩:=h;obtain ⟨w',hr,h3,h4⟩:=h1.drop law hT (q1s hs) ty;refine ⟨w',hr,⟨_,h3,fun t ht=>?_⟩,h4⟩;dsimp only;by_cases e:t=s
 ·subst e;rw [if_pos rfl];refine ⟨Maps.has_del_same,fun m' hm'=>?_⟩;cases hm'
 ·rw [if_neg e];refine ⟨(Maps.has_del_other (q1V e)).trans (h2 t ht).1,fun m' hm' z=>?_⟩;exact (Maps.atKey_del_other (q1V e) _).trans ((h2 t ht).2 m' hm' z)
theorem MpG.made(c:Cod α)(w:World):MpG c (w.alloc (.map #[] 0)) w.heap.size 0 (fun _=>none):=
 ⟨_,World.ownsMap_made w _ _ _,fun s _=>⟨rfl,fun m hm=>by cases hm⟩⟩
end
theorem key_inv{key:Value}{kl:Lit}(h:keyOf Tryz.prog 9 key=some kl):∃ s:Bs,key = .string ⟨s.toArray⟩/\kl = .string s/\s.length<=maxLen:=by
 cases key <;> simp [keyOf,uStr,mapKey] at h;rename_i s;obtain ⟨h1,h2⟩:=h;exact ⟨s.data.toList,V3,h2.symm,(by
  have:s.data.toList.length=s.size:=V3;rw [this];exact h1)⟩
def Tells{α:Type}(c:Cod α)(D:DataW Unit)(kn:Bs->Option α):Prop:=∀ s:Bs,s.length<=maxLen->Maps.has D (.string s)=(kn s).isSome/\∀ m,kn s=some m->∀ z,D.atKey (.string s) z=c.dat m
def MpR{α:Type}(c:Cod α)(w:World)(b r n:Nat)(kn:Bs->Option α)(left:Bs->Bool)(cnt:Nat):Prop:=
 ∃ (D:DataW Unit) (l:Lit->Bool),w.ranges Tryz.prog 9 c.rd b r n D l cnt/\Tells c D kn/\∀ s:Bs,s.length<=maxLen->l (.string s)=left s
section
variable {α : Type} {c : Cod α} {w : World} {b r n : Nat} {kn : Bs -> Option α} {left : Bs -> Bool} {cnt : Nat} {T E : TypeId}
theorem q7C(s t:Bs):(Lit.string t).sameKey (.string s)=(t==s):=by
 rw [Bool.eq_iff_iff,WideAt.sameKey_iff (isKeyS s)];simp
theorem MpG.range(h:MpG c w b n kn)(hT:Tryz.prog.underlying T=some (.map 9 E)) :
  ∃ w' cnt,(Instr.range T (.map (some b))).run Tryz.prog w = .ok (.pointer (some ⟨w.heap.size,0,none⟩)) w'/\MpR c w' b w.heap.size n kn (fun s=>(kn s).isSome) cnt/\w.grownBy w' none/\w'.heap.size=w.heap.size+1:=by
 obtain ⟨D,h1,h2⟩:=h;obtain ⟨w',r1,r2,r3,r4⟩:=h1.range law hT;exact ⟨w',_,r1,⟨D,_,r2,h2,fun s hs=>(h2 s hs).1⟩,r3,r4⟩
theorem MpR.owns(h:MpR c w b r n kn left cnt):MpG c w b n kn:=by
 obtain ⟨D,l,h1,h2,_⟩:=h;exact ⟨D,h1.owns,h2⟩
theorem MpR.next(h:MpR c w b r n kn left cnt)(ty:TypeId) :
  (cnt = 0/\(∀ s:Bs,s.length<=maxLen->left s=false)/\(Instr.next (.pointer (some ⟨r,0,none⟩)) false ty).run Tryz.prog w = .ok (.tuple #[.bool false]) w) \/
  ∃ (s:Bs) (m:α) (w':World) (cnt':Nat),s.length<=maxLen/\left s=true/\kn s=some m/\(Instr.next (.pointer (some ⟨r,0,none⟩)) false ty).run Tryz.prog w = .ok (.tuple #[.bool true,.string ⟨s.toArray⟩,c.enc m]) w' /\
   MpR c w' b r n kn (fun t=>left t && !(t==s)) cnt'/\cnt' < cnt/\w.grownBy w' (some r)/\w'.heap.size=w.heap.size/\(Instr.entry (.pointer (some ⟨r,0,none⟩))).run Tryz.prog w' = .ok (.tuple #[.string ⟨s.toArray⟩,c.enc m]) w':=by
 obtain ⟨D,l,h1,h2,h3⟩:=h;rcases h1.next law ty with ⟨h0,hl,hrun⟩ | ⟨key,v,kl,y,w',cnt',hkey,hlk,hv,hat,hrun,hrg,hlt,hgr,hsz,hen⟩
 ·exact .inl ⟨h0,fun s hs=>by rw [<-h3 s hs];exact hl _,hrun⟩
 ·obtain ⟨s,rfl,rfl,hs⟩:=key_inv hkey;have hhas:Maps.has D (.string s)=true:=by
   cases hh:Maps.has D (.string s) with
   | true=>rfl
   | false=>
    have e1:=hat (.agg []);have e2:=hat (.agg [.agg []]);rw [Maps.atKey_of_not_has hh] at e1 e2;rw [<-e2] at e1;cases e1
  have hk:=(h2 s hs).1;rw [hhas] at hk;obtain ⟨m,hm⟩:=Option.isSome_iff_exists.1 hk.symm;have hd:=(h2 s hs).2 m hm (.agg []);rw [hat] at hd;obtain ⟨d,ps⟩:=y;have hd':d=c.dat m:=hd;subst hd';have hve:=c.inv v m ps hv;subst hve;refine .inr ⟨s,m,w',cnt',hs,by rw [<-h3 s hs];exact hlk,hm,hrun,⟨D,_,hrg,h2,fun t ht=>?_⟩,hlt,hgr,hsz,hen⟩;exact V48
theorem MpR.drop(h:MpR c w b r n kn left cnt)(hT:Tryz.prog.underlying T=some (.map 9 E)){s:Bs}(hs:s.length<=maxLen)(ty:TypeId) :
  ∃ w' cnt',(Builtin.delete_ #[T,9] ty #[.map (some b),.string ⟨s.toArray⟩]).run Tryz.prog w = .ok (.tuple #[]) w'/\MpR c w' b r n (fun t=>if t=s then none else kn t) (fun t=>left t && !(t==s)) cnt'/\cnt'<=cnt/\w.mapTurned w' b:=by
 obtain ⟨D,l,h1,h2,h3⟩:=h;obtain ⟨w',cnt',r1,r2,r3,r4⟩:=h1.drop law hT (q1s hs) ty;refine ⟨w',cnt',r1,⟨_,_,r2,fun t ht=>?_,fun t ht=>?_⟩,r3,r4⟩
 ·dsimp only;by_cases e:t=s
  ·subst e;rw [if_pos rfl];exact ⟨Maps.has_del_same,fun m' hm'=>by cases hm'⟩
  ·rw [if_neg e];exact V3j
 ·exact V48
end
section
variable {α : Type} {c : Cod α} (w : World) {ops : Array Oper} {rest : List Oper} {o : Oper} {a : Act} {Q : Exit -> Act -> World -> Prop} {b r n : Nat} {kn : Bs -> Option α} {left : Bs -> Bool} {cnt : Nat} {E : TypeId}
theorem q2Y(hg:o.guard=none)(m:Operand)(T:TypeId)(hop:o.op=Op.range T m)(hT:Tryz.prog.underlying T=some (.map 9 E))(hm:a.eval m = .map (some b))(h:MpG c w b n kn)
  (hK:∀ w' cnt,MpR c w' b w.heap.size n kn (fun s=>(kn s).isSome) cnt->w.grownBy w' none->w'.heap.size=w.heap.size+1->wpList Tryz.prog ops Q rest (a.put o.dst (.pointer (some ⟨w.heap.size,0,none⟩))) w') :
  wpList Tryz.prog ops Q (o :: rest) a w:=by
 refine wpList_plain hg fun K' hK'=>?_
 obtain ⟨w',cnt,hrun,r1,r2,r3⟩:=h.range hT;unfold Oper.wp;simp [execOp,hop,hm,hrun,Result.andThen];exact hK' _ _ (hK w' cnt r1 r2 r3)
theorem q3p(hg:o.guard=none)(it:Operand)(hop:o.op=Op.next it false)(hit:a.eval it = .pointer (some ⟨r,0,none⟩))(h:MpR c w b r n kn left cnt)
  (hDone:cnt = 0->(∀ s:Bs,s.length<=maxLen->left s=false)->wpList Tryz.prog ops Q rest (a.put o.dst (.tuple #[.bool false])) w)
  (hMore:∀ (s:Bs) (m:α) (w':World) (cnt':Nat),s.length<=maxLen->left s=true->kn s=some m->MpR c w' b r n kn (fun t=>left t && !(t==s)) cnt'->cnt' < cnt->w.grownBy w' (some r)->w'.heap.size=w.heap.size ->
   (Instr.entry (.pointer (some ⟨r,0,none⟩))).run Tryz.prog w' = .ok (.tuple #[.string ⟨s.toArray⟩,c.enc m]) w'->wpList Tryz.prog ops Q rest (a.put o.dst (.tuple #[.bool true,.string ⟨s.toArray⟩,c.enc m])) w') :
  wpList Tryz.prog ops Q (o :: rest) a w:=by
 refine wpList_plain hg fun K' hK'=>?_
 unfold Oper.wp;rcases h.next o.type with ⟨h0,hl,hrun⟩ | ⟨s,m,w',cnt',hs,hlk,hm,hrun,hrg,hlt,hgr,hsz,hen⟩
 ·simp [execOp,hop,hit,hrun,Result.andThen];exact hK' _ _ (hDone h0 hl)
 ·simp [execOp,hop,hit,hrun,Result.andThen];exact hK' _ _ (hMore s m w' cnt' hs hlk hm hrg hlt hgr hsz hen)
end
end Fl
namespace Fl
open Lx Pa Sh Go.Proofs.YtcgibpdjfgjldaaGreatDoor.Nm
structure Wk where
 sec:Bool
 loo:Option (BitVec 32)
abbrev Kw:=Bs->Option Wk
def Kw.put(kn:Kw)(s:Bs)(m:Wk):Kw:=fun t=>if t=s then some m else kn t
def secB(kn:Kw)(s:Bs):Bool:=match kn s with | some m=>m.sec | none=>false
abbrev Lo:=Bs->Option (BitVec 32)
def looB(kn:Kw):Lo:=fun s=>match kn s with | some m=>m.loo | none=>none
inductive Rf(α:Type)
 | ok (x:α)
 | bad (a:Int) (er:Nat)
def bndF{α β:Type}(r:Rf α)(f:α->Rf β):Rf β:=match r with | .ok x=>f x | .bad a e=>.bad a e
def sgU:List Bs:=[[126],[45]]
def sgB:List Bs:=[[43],[45],[38],[124],[94]]
def sgS:List Bs:=[[60,60],[62,62],[60,60,60]]
def fitB(lo:Lo)(k:Int)(s:Bs)(m:Nat):Bool:=
 if k = 0 then true else if k = 1 then (lo s).isSome else if k = 2 then decide (m = 1) && sgU.contains s else if k = 3 then decide (m = 2) && sgB.contains s else if k = 4 then decide (m = 2) && sgS.contains s else false
mutual
def strB(lo:Lo):Tz->Option (Int×Int×Bs)
 | .mk k a s _ _ l=>if fitB lo k s l.length=true then strBs lo l else some (k,a,s)
def strBs(lo:Lo):List Tz->Option (Int×Int×Bs)
 | []=>none
 | x :: l=>match strB lo x with | some e=>some e | none=>strBs lo l
end
abbrev Num:=Lo->Tz->BitVec 32
def badB(kn:Kw)(e:Int×Int×Bs):Nat:=if e.1 = 1/\secB kn e.2.2=true then 130 else 120
def nuB(num:Num)(kn:Kw)(z:Tz):Rf (BitVec 32):=match strB (looB kn) z with | some e=>.bad e.2.1 (badB kn e) | none=>.ok (num (looB kn) z)
def nx(nd:Int):Int:=(nd+1+9223372036854775808) % 18446744073709551616 - 9223372036854775808
def seqB(f:Tz->Int->Rf (Bool×Int)):List Tz->Int->Rf (List Bool×Int)
 | [],nd=>.ok ([],nd)
 | x :: l,nd=>bndF (f x nd) fun q=>bndF (seqB f l q.2) fun r=>.ok (q.1 :: r.1,r.2)
abbrev Fu:=Bs->Option (List Bs×List Tz)
def parB:List Bs->List Bool->Kw
 | p :: ps,b :: bs=>fun t=>match parB ps bs t with | some m=>some m | none=>if t=p then some ⟨b,none⟩ else none
 | _,_=>fun _=>none
abbrev Sub:=Kw->Tz->Int->Rf (Bool×Int)
def calB(fu:Fu)(sub:Sub)(s:Bs)(q:List Bool×Int):Rf (Bool×Int):=
 if s=sel then .ok (q.1.any id,q.2) else match fu s with
  | none=>.ok (false,q.2)
  | some f=>bndF (seqB (sub (parB f.1 q.1)) (f.2.take 1) q.2) fun r=>.ok (r.1.any id,r.2)
section
variable (num : Num) (M : Int) (fu : Fu)
mutual
def exT(deep:Bool)(sub:Sub)(kn:Kw):Tz->Int->Rf (Bool×Int)
 | .mk k a s _ _ l,nd=>
  if k = 5 then (if M < nx nd\/deep=true then .bad a 150 else bndF (seqB (sub kn) l (nx nd)) fun q=>calB fu sub s q)
  else if k = 4 then exS deep sub kn l (nx nd)
  else bndF (exTs deep sub kn l (nx nd)) fun q=>.ok (if k = 1 then secB kn s else if k = 2\/k = 3 then q.1.any id else false,q.2)
def exS(deep:Bool)(sub:Sub)(kn:Kw):List Tz->Int->Rf (Bool×Int)
 | [],nd=>.ok (false,nd)
 | x :: l,nd=>bndF (match l with | []=>.ok 0 | y :: _=>nuB num kn y) fun _=>exT deep sub kn x nd
def exTs(deep:Bool)(sub:Sub)(kn:Kw):List Tz->Int->Rf (List Bool×Int)
 | [],nd=>.ok ([],nd)
 | x :: l,nd=>bndF (exT deep sub kn x nd) fun q=>bndF (exTs deep sub kn l q.2) fun r=>.ok (q.1 :: r.1,r.2)
end
def exC:Nat->Sub
 | 0=>exT num M fu true fun _ _ nd=>.ok (false,nd)
 | c+1=>exT num M fu false (exC c)
end
structure Sf where
 kn:Kw
 rd:Nat
 nd:Int
 ou:List (Bs×Bool×Bool)
def putsB(kn:Kw)(b:Bool):List Bs->Kw
 | []=>kn
 | s :: l=>putsB (kn.put s ⟨b,none⟩) b l
def cutB(kn kn':Kw):Kw:=fun t=>if (kn t).isSome=true then kn' t else none
def roB(R:Nat)(a:Int)(s:Bs)(body:Sf->Rf Sf):Nat->BitVec 32->Sf->Rf Sf
 | 0,_,c=>.ok c
 | n+1,i,c=>if R < c.rd+1 then .bad a 150 else bndF (body { c with rd:=c.rd+1,kn:=c.kn.put s ⟨false,some i⟩ }) fun d=>roB R a s body n (i+1) { d with kn:=cutB c.kn d.kn }
section
variable (num : Num) (M : Int) (D R : Nat) (fu : Fu)
def n0B(kn:Kw):List Tz->Rf (BitVec 32)
 | x :: _=>nuB num kn x
 | []=>.ok 0
def n1B(kn:Kw):List Tz->Rf (BitVec 32)
 | _ :: y :: _=>nuB num kn y
 | _=>.ok 0
def hdB(l:List Tz)(nd:Int)(f:Tz->Int->Rf (Bool×Int)):Rf (Bool×Int):=match l with | []=>.ok (false,nd) | x :: _=>f x nd
mutual
def sfT:Tz->Sf->Rf Sf
 | .mk k a s _ ps l,c=>
  if k = 6\/k = 7 then .ok { c with kn:=putsB c.kn (decide (k = 6)) ps }
  else if k = 10 then bndF (hdB l c.nd (exC num M fu D c.kn)) fun q=>.ok { c with nd:=q.2,kn:=c.kn.put s ⟨q.1,none⟩ }
  else if k = 8\/k = 9 then bndF (hdB l c.nd (exC num M fu D c.kn)) fun q=>if q.1=true/\k = 9 then .bad a 130 else .ok { c with nd:=q.2,ou:=c.ou ++ [(s,q.1,decide (k = 9))] }
  else if k = 11 then
   bndF (n0B num c.kn l) fun i=>bndF (n1B num c.kn l) fun j=>roB R a s (fun d=>sfTs 2 l d) (j.toNat - i.toNat) i c
  else .ok c
def sfTs:Nat->List Tz->Sf->Rf Sf
 | _,[],c=>.ok c
 | 0,x :: l,c=>bndF (sfT x c) fun d=>sfTs 0 l d
 | i+1,_ :: l,c=>sfTs i l c
end
end
mutual
def lnT:Tz->Fu->Fu
 | .mk k _ s _ ps l,fu=>if k = 12 then (fun t=>if t=s then some (ps,l) else fu t) else if k = 11 then lnTs 2 l fu else fu
def lnTs:Nat->List Tz->Fu->Fu
 | _,[],fu=>fu
 | 0,x :: l,fu=>lnTs 0 l (lnT x fu)
 | i+1,_ :: l,fu=>lnTs i l fu
end
def init:Sf:={ kn:=fun _=>none,rd:=0,nd:=0,ou:=[] }
def fuz(z:Tz):Fu:=lnTs 0 (lz z) fun _=>none
def flB(num:Num)(M:Int)(D R:Nat)(z:Tz):Rf Sf:=sfTs num M D R (fuz z) 0 (lz z) init
/-! Without secret inputs. -/
def NoK(kn:Kw):Prop:=∀ s m,kn s=some m->m.sec=false
theorem NoK.sec{kn:Kw}(h:NoK kn)(s:Bs):secB kn s=false:=by
 unfold secB;cases hk:kn s with
 | none=>rfl
 | some m=>exact h s m hk
theorem NoK.put{kn:Kw}(h:NoK kn)(s:Bs){m:Wk}(hm:m.sec=false):NoK (kn.put s m):=fun t m' ht=>by
 unfold Kw.put at ht;by_cases e:t=s
 ·rw [if_pos e] at ht;cases ht;exact hm
 ·rw [if_neg e] at ht;exact h t m' ht
def NoR{α:Type}(P:α->Prop):Rf α->Prop | .ok x=>P x | .bad _ e=>e≠130
theorem NoR.bnd{α β:Type}{P:α->Prop}{Q:β->Prop}{r:Rf α}{f:α->Rf β}(h:NoR P r)(hf:∀ x,P x->NoR Q (f x)):NoR Q (bndF r f):=by
 cases r with
 | ok x=>exact hf x h
 | bad a e=>exact h
def AllNo(bs:List Bool):Prop:=∀ b∈bs,b=false
theorem AllNo.any{bs:List Bool}(h:AllNo bs):bs.any id=false:=by
 rw [List.any_eq_false];intro b hb;rw [h b hb];decide
section
variable {num : Num} {M : Int} {D R : Nat} {fu : Fu}
end
/-! Where more inputs are secret. -/
def LeK(k1 k2:Kw):Prop:=∀ s,(k1 s=none/\k2 s=none)\/∃ m1 m2,k1 s=some m1/\k2 s=some m2/\m1.loo=m2.loo/\(m1.sec=true->m2.sec=true)
theorem LeK.sec{k1 k2:Kw}(h:LeK k1 k2)(s:Bs)(hs:secB k1 s=true):secB k2 s=true:=by
 unfold secB at hs ⊢;rcases h s with ⟨h1,h2⟩ | ⟨m1,m2,h1,h2,_,h4⟩
 ·rw [h1] at hs;cases hs
 ·rw [h1] at hs;rw [h2];exact h4 hs
theorem LeK.put{k1 k2:Kw}(h:LeK k1 k2)(s:Bs){m1 m2:Wk}(hl:m1.loo=m2.loo)(hs:m1.sec=true->m2.sec=true):LeK (k1.put s m1) (k2.put s m2):=fun t=>by
 unfold Kw.put;by_cases e:t=s
 ·rw [if_pos e,if_pos e];exact .inr ⟨m1,m2,rfl,rfl,hl,hs⟩
 ·rw [if_neg e,if_neg e];exact h t
theorem LeK.refl(k:Kw):LeK k k:=fun s=>by
 cases hk:k s with
 | none=>exact .inl ⟨rfl,rfl⟩
 | some m=>exact .inr ⟨m,m,rfl,rfl,rfl,fun h=>h⟩
def LeR{α:Type}(P:α->α->Prop)(r1 r2:Rf α):Prop:=∀ y,r2 = .ok y->∃ x,r1 = .ok x/\P x y
theorem LeR.bnd{α β:Type}{P:α->α->Prop}{Q:β->β->Prop}{r1 r2:Rf α}{f1 f2:α->Rf β}(h:LeR P r1 r2)(hf:∀ x y,P x y->LeR Q (f1 x) (f2 y)):LeR Q (bndF r1 f1) (bndF r2 f2):=fun z hz=>by
 cases r2 with
 | bad a e=>cases hz
 | ok y=>
  obtain ⟨x,hx,hp⟩:=h y rfl;rw [hx];exact hf x y hp z hz
theorem LeR.ok{α:Type}{P:α->α->Prop}{x y:α}(h:P x y):LeR P (.ok x) (.ok y):=fun z hz=>by
 cases hz;exact ⟨x,rfl,h⟩
theorem LeR.bad{α:Type}{P:α->α->Prop}{r:Rf α}{a:Int}{e:Nat}:LeR P r (.bad a e):=fun z hz=>by cases hz
def LeB:List Bool->List Bool->Prop
 | [],[]=>True
 | b :: l,b' :: l'=>(b=true->b'=true)/\LeB l l'
 | _,_=>False
theorem LeB.any:∀ {l l':List Bool},LeB l l'->l.any id=true->l'.any id=true
 | [],[],_,h=>h
 | b :: l,b' :: l',h,ha=>by
  rw [List.any_cons,Bool.or_eq_true] at ha ⊢;rcases ha with ha | ha
  ·exact .inl (h.1 ha)
  ·exact .inr (LeB.any h.2 ha)
 | [],_ :: _,h,_=>h.elim
 | _ :: _,[],h,_=>h.elim
section
variable {num : Num} {M : Int} {D R : Nat} {fu : Fu}
def LeO:List (Bs×Bool×Bool)->List (Bs×Bool×Bool)->Prop
 | [],[]=>True
 | o :: l,o' :: l'=>(o.1=o'.1/\(o.2.1=true->o'.2.1=true))/\LeO l l'
 | _,_=>False
theorem LeO.app:∀ {l l':List (Bs×Bool×Bool)} {o o':Bs×Bool×Bool},LeO l l'->o.1=o'.1->(o.2.1=true->o'.2.1=true)->LeO (l ++ [o]) (l' ++ [o'])
 | [],[],o,o',_,h1,h2=>⟨⟨h1,h2⟩,trivial⟩
 | _ :: l,_ :: l',o,o',h,h1,h2=>⟨h.1,LeO.app h.2 h1 h2⟩
 | [],_ :: _,_,_,h,_,_=>h.elim
 | _ :: _,[],_,_,h,_,_=>h.elim
end
end Fl
end Go.Proofs.YtcgibpdjfgjldaaGreatDoor
