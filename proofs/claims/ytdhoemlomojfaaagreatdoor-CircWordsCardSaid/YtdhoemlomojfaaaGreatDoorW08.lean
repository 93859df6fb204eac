/- DERIVED. PaMem, ShArg, ShPl, NmSpec. By an AI agent. -/
import Derived.Test.YtdhoemlomojfaaaGreatDoorW07
import Derived.Test.YtdhoemlomojfaaaGreatDoorRows
import Derived.ProofKit
import Derived.OpenShut
set_option linter.unusedVariables false
set_option linter.unusedSimpArgs false
namespace Go.Proofs.YtdhoemlomojfaaaGreatDoor.Pa
open Go Go.RowKit Lx Args
def strV(p:Bs):Value:=.string ⟨p.toArray⟩
def ndC(k a:Nat)(s:Bs)(n:Nat)(A:Option Addr)(la cA:Nat)(B:Option Addr)(lb cB:Nat):List Value:=
 [.int .i64 (k:Int),.string ⟨s.toArray⟩,.int .u32 (n:Int),.int .i64 (a:Int),.slice A la cA,.slice B lb cB]
structure CapOk(n c:Nat):Prop where
 few:n≤100000
 le:n≤c
 cap:c≤maxLen
theorem own_cap{w:World}{lo:Nat}{e:TypeId}{size n c:Nat}{A:Option Addr}{xs:List Value}(h:w.ownsRow lo e size (.slice A n c) n xs)(hl:n≤100000):CapOk n c:=by
 rcases h.2 with ⟨h,h0⟩ | ⟨g,cap,cur,h,_,_,h1,h2,_⟩
 ·cases h;exact ⟨hl,Nat.le_refl _,by decide⟩
 ·cases h;exact ⟨hl,h1,h2⟩
mutual
def TIn(N:Nat→Prop)(w:World):Tr→List Value→Prop
 | .mk k a s n ps l,cs=>∃ A cA B cB,cs=ndC k a s n A l.length cA B ps.length cB∧CapOk l.length cA∧CapOk ps.length cB∧Lies w B (ps.map strV)∧(∀ b o,B=some ⟨b,o,none⟩→ps≠[]→N b) ∧
   ∃ css,Lies w A css.flatten∧(∀ b o,A=some ⟨b,o,none⟩→l≠[]→N b)∧TsIn N w l css
def TsIn(N:Nat→Prop)(w:World):List Tr→List (List Value)→Prop
 | [],css=>css=[]
 | x :: l,css=>∃ c r,css=c :: r∧TIn N w x c∧TsIn N w l r
end
mutual
theorem TIn.upd{N X:Nat→Prop}{w w':World}(hu:Upd X w w')(hN:∀ b,N b→¬ X b):∀ {x:Tr} {cs:List Value},TIn N w x cs→TIn N w' x cs
 | .mk _ _ _ _ ps l,_,h=>by
  unfold TIn at h ⊢;obtain ⟨A,cA,B,cB,h1,h2,h3,h4,h5,css,h6,h7,h8⟩:=h;refine ⟨A,cA,B,cB,h1,h2,h3,hu.lies h4 fun b o e hl=>hN b (h5 b o e fun e2=>?_),h5,css,?_,h7,TsIn.upd hu hN h8⟩
  ·rw [e2] at hl;simp at hl
  ·refine hu.lies h6 fun b o e hl=>hN b (h7 b o e fun e2=>?_)
   subst e2;unfold TsIn at h8;subst h8;simp at hl
theorem TsIn.upd{N X:Nat→Prop}{w w':World}(hu:Upd X w w')(hN:∀ b,N b→¬ X b):∀ {l:List Tr} {css:List (List Value)},TsIn N w l css→TsIn N w' l css
 | [],_,h=>by unfold TsIn at h ⊢;exact h
 | x :: l,_,h=>by
  unfold TsIn at h ⊢;obtain ⟨c,r,h1,h2,h3⟩:=h;exact ⟨c,r,h1,TIn.upd hu hN h2,TsIn.upd hu hN h3⟩
end
theorem tIn_len{N:Nat→Prop}{w:World}{x:Tr}{cs:List Value}(h:TIn N w x cs):cs.length = 6:=by
 cases x;unfold TIn at h;obtain ⟨_,_,_,_,rfl,_⟩:=h;rfl
theorem tsIn_len{N:Nat→Prop}{w:World}:∀ {l:List Tr} {css:List (List Value)},TsIn N w l css→css.length=l.length∧css.flatten.length=l.length * 6
 | [],_,h=>by unfold TsIn at h;subst h;exact ⟨rfl,rfl⟩
 | x :: l,_,h=>by
  unfold TsIn at h;obtain ⟨c,r,rfl,h2,h3⟩:=h;have h4:=tsIn_len h3;have h5:=tIn_len h2;simp only [List.length_cons,List.flatten_cons,List.length_append];omega
mutual
theorem TIn.mono{N N':Nat→Prop}{w:World}(hN:∀ b,N b→b < w.heap.size→N' b):∀ {x:Tr} {cs:List Value},TIn N w x cs→TIn N' w x cs
 | .mk _ _ _ _ ps l,_,h=>by
  unfold TIn at h ⊢;obtain ⟨A,cA,B,cB,h1,h2,h3,h4,h5,css,h6,h7,h8⟩:=h;refine ⟨A,cA,B,cB,h1,h2,h3,h4,fun b o e hne=>hN b (h5 b o e hne) ?_,css,h6,fun b o e hne=>hN b (h7 b o e hne) ?_,TsIn.mono hN h8⟩
  ·cases ps with
   | nil=>exact absurd rfl hne
   | cons p ps=>
    obtain ⟨b',o',e',hb,_⟩:=h4.at_ (j:=0) (u:=strV p) rfl;rw [e] at e';cases e';exact hb
  ·have hl:=(tsIn_len h8).2;cases l with
   | nil=>exact absurd rfl hne
   | cons y l=>
    cases hc:css.flatten with
    | nil=>rw [hc] at hl;simp at hl
    | cons u us=>
     obtain ⟨b',o',e',hb,_⟩:=h6.at_ (j:=0) (u:=u) (by rw [hc];rfl);rw [e] at e';cases e';exact hb
theorem TsIn.mono{N N':Nat→Prop}{w:World}(hN:∀ b,N b→b < w.heap.size→N' b):∀ {l:List Tr} {css:List (List Value)},TsIn N w l css→TsIn N' w l css
 | [],_,h=>by unfold TsIn at h ⊢;exact h
 | x :: l,_,h=>by
  unfold TsIn at h ⊢;obtain ⟨c,r,h1,h2,h3⟩:=h;exact ⟨c,r,h1,TIn.mono hN h2,TsIn.mono hN h3⟩
end
theorem tsIn_app{N:Nat→Prop}{w:World}:∀ {l:List Tr} {css:List (List Value)} {l':List Tr} {css':List (List Value)},TsIn N w l css→TsIn N w l' css'→TsIn N w (l ++ l') (css ++ css')
 | [],_,_,_,h,h'=>by unfold TsIn at h;subst h;exact h'
 | x :: l,_,_,_,h,h'=>by
  unfold TsIn at h;obtain ⟨c,r,rfl,h2,h3⟩:=h;show TsIn N w (x :: (l ++ _)) (c :: (r ++ _));unfold TsIn;exact ⟨c,_,rfl,h2,tsIn_app h3 h'⟩
theorem tsIn_one{N:Nat→Prop}{w:World}{x:Tr}{c:List Value}(h:TIn N w x c):TsIn N w [x] [c]:=by
 unfold TsIn;exact ⟨c,[],rfl,h,by unfold TsIn;rfl⟩
structure ArrT(e:TypeId)(lo:Nat)(w:World)(g c:Nat)(xs:List Tr):Prop where
 ex:∃ css,w.ownsRow lo e 6 (.slice (some ⟨g,0,none⟩) xs.length c) xs.length css.flatten∧TsIn (fun b=>lo≤b∧b≠g) w xs css
theorem own_at{w:World}{lo:Nat}{e:TypeId}{size g n c:Nat}{xs:List Value}(h:w.ownsRow lo e size (.slice (some ⟨g,0,none⟩) n c) n xs):lo≤g∧g < w.heap.size:=by
 rcases h.2 with ⟨h,_⟩ | ⟨g',cap,cur,h,hb,hh,_⟩
 ·cases h
 ·cases h;exact ⟨hb,(Array.getElem?_eq_some_iff.1 hh).1⟩
theorem own_upd3{X:Nat→Prop}{w w':World}{base:Nat}{e:TypeId}{size n g c:Nat}{xs:List Value}(h:w.ownsRow base e size (.slice (some ⟨g,0,none⟩) n c) n xs)(hu:Upd X w w')(hX:¬ X g):w'.ownsRow base e size (.slice (some ⟨g,0,none⟩) n c) n xs:=by
 have hg:=(own_at h).2;obtain ⟨h1,h2⟩:=h;refine ⟨h1,?_⟩;rcases h2 with ⟨h2,_⟩ | ⟨g',cap,cur,e1,h3,h4,h5⟩
 ·cases h2
 ·cases e1;exact .inr ⟨g,_,cur,rfl,h3,(hu.block _ hg hX).trans h4,h5⟩
theorem ArrT.upd{X:Nat→Prop}{e:TypeId}{lo:Nat}{w w':World}{g c:Nat}{xs:List Tr}(h:ArrT e lo w g c xs)(hu:Upd X w w')(hX:∀ b,X b→b < lo):ArrT e lo w' g c xs:=by
 obtain ⟨css,h1,h2⟩:=h;have hg:=own_at h1;exact ⟨css,own_upd3 h1 hu fun hx=>by have:=hX g hx;omega,h2.upd hu fun b hb hx=>by have:=hX b hx;omega⟩
theorem ArrT.push{e:TypeId}{lo:Nat}{w w2 w3:World}{g c g' c':Nat}{xs:List Tr}{x:Tr}{cs:List Value}{css:List (List Value)}(h2:TsIn (fun b=>lo≤b∧b≠g) w2 xs css)
  (hx:TIn (fun b=>w.heap.size≤b) w2 x cs) (hg:g < w.heap.size) (hlo:lo≤w.heap.size) (h3:w3.ownsRow lo e 6 (.slice (some ⟨g',0,none⟩) (xs.length+1) c') (xs.length+1) (css.flatten ++ cs)) (h4:w2.grownBy w3 (Value.slice (some ⟨g,0,none⟩) xs.length c).ownBlock)
  (h5:some g'=(Value.slice (some ⟨g,0,none⟩) xs.length c).ownBlock∨g'=w2.heap.size):ArrT e lo w3 g' c' (xs ++ [x]):=by
 have hu:Upd (fun b=>b=g) w2 w3:=(Upd.refl _ w2).grown h4 fun k hk _=>by cases hk;rfl
 have hg':∀ b,b≠g→b < w2.heap.size→b≠g':=fun b hb hs e=>by
  rcases h5 with h5 | h5
  ·cases h5;exact hb e
  ·omega
 refine ⟨css ++ [cs],?_,?_⟩
 ·rw [List.length_append,List.flatten_append];simpa using h3
 ·have a1:TsIn (fun b=>lo≤b∧b≠g∧b≠g') w2 xs css:=h2.mono fun b hb hs=>⟨hb.1,hb.2,hg' b hb.2 hs⟩
  have a2:TsIn (fun b=>lo≤b∧b≠g∧b≠g') w2 [x] [cs]:=tsIn_one (hx.mono fun b hb hs=>⟨by omega,by omega,hg' b (by omega) hs⟩);refine ((tsIn_app a1 a2).upd hu fun b hb e=>hb.2.1 e).mono fun b hb _=>⟨hb.1,hb.2.2⟩
theorem ArrT.first{e:TypeId}{lo:Nat}{w1:World}{x:Tr}{cs:List Value}(hT:TIn (fun b=>lo≤b) w1 x cs)(hlo:lo≤w1.heap.size):ArrT e lo (w1.alloc (.cells cs.toArray e)) w1.heap.size 1 [x]:=by
 refine ⟨[cs],?_,?_⟩
 ·have:=own_full w1 hlo e 6 1 cs (by rw [tIn_len hT]) (by decide);simpa using this
 ·exact (tsIn_one (hT.mono (N':=fun b=>lo≤b∧b≠w1.heap.size) fun b hb hs=>⟨hb,by omega⟩)).upd ((Upd.refl (fun _=>False) w1).alloc _) (fun _ _ h=>h)
theorem arr_step{e:TypeId}{lo bp:Nat}{wr w1 w8:World}{g c g8 c8:Nat}{xs:List Tr}{css:List (List Value)}{x:Tr}{cs:List Value}(how:wr.ownsRow lo e 6 (.slice (some ⟨g,0,none⟩) xs.length c) xs.length css.flatten)(hts:TsIn (fun b=>lo≤b∧b≠g) wr xs css)(hlt:bp < lo)
  (hU:Upd (fun b=>b=bp) wr w1) (hT:TIn (fun b=>wr.heap.size≤b) w1 x cs) (hE:AppE lo e 6 (w1.alloc (.cells cs.toArray e)) (.slice (some ⟨g,0,none⟩) xs.length c) xs.length 1 (css.flatten ++ cs) g8 c8 w8) :
  ArrT e lo w8 g8 c8 (xs ++ [x])∧(∀ w,w.heap.size≤lo→Upd (fun b=>b=bp) w wr→Upd (fun b=>b=bp) w w8)∧Upd (fun b=>b=g) w1 w8:=by
 have hg:=own_at how;have ha:Upd (fun _=>False) w1 (w1.alloc (.cells cs.toArray e)):=(Upd.refl _ w1).alloc _;refine ⟨ArrT.push (w:=wr) ((hts.upd hU fun b hb e=>by omega).upd ha fun _ _ h=>h) (hT.upd ha fun _ _ h=>h) hg.2 (by omega) hE.own hE.grown hE.at_,fun w hw hu=>?_,?_⟩
 ·exact ((hu.trans hU).alloc _).grown hE.grown fun k hk hs=>by
   cases hk;exact absurd hs (by show ¬ g < w.heap.size;omega)
 ·exact ((Upd.refl (fun b=>b=g) w1).alloc _).grown hE.grown fun k hk _=>by cases hk;rfl
theorem ArrT.node{e:TypeId}{lo:Nat}{w:World}{g c:Nat}{xs:List Tr}(h:ArrT e lo w g c xs)(hl:xs.length≤100000)(k a n:Nat)(s:Bs):TIn (fun b=>lo≤b) w (.mk k a s n [] xs) (ndC k a s n (some ⟨g,0,none⟩) xs.length c none 0 0):=by
 obtain ⟨css,h1,h2⟩:=h;unfold TIn;refine ⟨_,_,none,0,rfl,own_cap h1 hl,⟨by simp,by simp,by decide⟩,Lies.nil _ _,fun b o e=>(by cases e),css,?_,fun b o e _=>?_,h2.mono fun b hb _=>hb.1⟩
 ·rcases h1.2 with ⟨h,_⟩ | ⟨g',cap,cur,h,_⟩
  ·cases h
  ·exact fun j u hj=>⟨_,rfl,h1.cells (g:=g) rfl j u hj⟩
 ·cases e;exact (own_at h1).1
theorem tIn_leaf{N:Nat→Prop}(w:World)(k a n:Nat)(s:Bs):TIn N w (.mk k a s n [] []) (ndC k a s n none 0 0 none 0 0):=by
 unfold TIn;exact ⟨none,0,none,0,rfl,⟨by simp,by simp,by decide⟩,⟨by simp,by simp,by decide⟩,Lies.nil _ _,fun b o e=>(by cases e),[],Lies.nil _ _,fun b o e=>(by cases e),by unfold TsIn;rfl⟩
end Go.Proofs.YtdhoemlomojfaaaGreatDoor.Pa
namespace Go.Proofs.YtdhoemlomojfaaaGreatDoor.Sh
open Go Go.ChangeShapes Go.WideShapes Go.ChangeAt Go.RowKit Lx Args Pa
inductive Tz
 | mk (k a:Int) (s:Bs) (n:Nat) (ps:List Bs) (l:List Tz)
def nzC(k a:Int)(s:Bs)(n:Nat)(A:Option Addr)(la cA:Nat)(B:Option Addr)(lb cB:Nat):List Value:=
 [.int .i64 k,.string ⟨s.toArray⟩,.int .u32 (n:Int),.int .i64 a,.slice A la cA,.slice B lb cB]
mutual
def TIc(q:Prop)(w:World):Tz→List Value→Prop
 | .mk k a s n ps l,cs=>∃ A cA B cB,cs=nzC k a s n A l.length cA B ps.length cB∧l.length≤maxLen∧ps.length≤maxLen∧Lies w B (ps.map strV) ∧
   ∃ css,Lies w A css.flatten∧TsIc q w l css∧(q→(l.length≤cA∧cA≤maxLen)∧ps.length≤cB∧cB≤maxLen)
def TsIc(q:Prop)(w:World):List Tz→List (List Value)→Prop
 | [],css=>css=[]
 | x :: l,css=>∃ c r,css=c :: r∧TIc q w x c∧TsIc q w l r
end
abbrev TIz(w:World):Tz→List Value→Prop:=TIc False w
abbrev TsIz(w:World):List Tz→List (List Value)→Prop:=TsIc False w
mutual
def nz:Tz→Prop
 | .mk _ _ _ n _ l=>n < 4294967296∧nzs l
def nzs:List Tz→Prop
 | []=>True
 | x :: l=>nz x∧nzs l
end
section
variable {H : Type} {enc : TypeId × Value → H} {w : World} {base : Nat} {spare : Nat → Bool} {held : Bool}
end
end Go.Proofs.YtdhoemlomojfaaaGreatDoor.Sh
namespace Go.Proofs.YtdhoemlomojfaaaGreatDoor.Sh
open Lx Pa
mutual
def cntz:Tz→Nat
 | .mk _ _ _ _ _ l=>1+cnts l
def cnts:List Tz→Nat
 | []=>0
 | x :: l=>cntz x+cnts l
end
mutual
def embz:Tr→Tz
 | .mk k a s n ps l=>.mk (k:Int) (a:Int) s n ps (embs l)
def embs:List Tr→List Tz
 | []=>[]
 | x :: l=>embz x :: embs l
end
theorem embs_len:∀ l:List Tr,(embs l).length=l.length
 | []=>rfl
 | x :: l=>by unfold embs;simp [embs_len l]
mutual
def exT(dec:Nat→Bs):Tz→Bs
 | .mk k _ s n _ l=>if k = 0 then dec n else if k = 1 then s else if k = 2 then s ++ liT dec [] true true l else if k = 5 then s ++ [40] ++ liT dec [44,32] false true l ++ [41] else liT dec ([32] ++ s ++ [32]) true true l
def liT(dec:Nat→Bs)(bt:Bs)(op first:Bool):List Tz→Bs
 | []=>[]
 | x :: l=>(if first then [] else bt) ++ opT dec op x ++ liT dec bt op false l
def opT(dec:Nat→Bs)(op:Bool):Tz→Bs
 | .mk k _ s n _ l=>
  let t:=if k = 0 then dec n else if k = 1 then s else if k = 2 then s ++ liT dec [] true true l else if k = 5 then s ++ [40] ++ liT dec [44,32] false true l ++ [41] else liT dec ([32] ++ s ++ [32]) true true l
  if op && !(decide (k = 0) || decide (k = 1) || decide (k = 5)) then [40] ++ t ++ [41] else t
end
end Go.Proofs.YtdhoemlomojfaaaGreatDoor.Sh
namespace Go.Proofs.YtdhoemlomojfaaaGreatDoor.Nm
open Lx Pa Sh
abbrev Kn:=Bs→Option (Nat×Nat)
def Kn.put(kn:Kn)(s:Bs)(m:Nat×Nat):Kn:=fun t=>if t=s then some m else kn t
def Kn.dels(kn:Kn)(l:List Bs):Kn:=fun t=>if t∈l then none else kn t
structure St where
 kn:Kn
 en:List Bs
 se:List Bs
 pu:List Bs
 ou:List (Bs×Bool)
def isB(kn:Kn)(s:Bs)(l:List Nat):Bool:=match kn s with | none=>false | some m=>l.contains m.1
def namedB(kn:Kn)(s:Bs):Bool:=(kn s).isSome
def wordB(kn:Kn)(s:Bs):Bool:=match kn s with | none=>false | some m=>!decide (m.1 = 1)
def callB(kn:Kn)(s:Bs)(p:Nat):Bool:=match kn s with | none=>false | some m=>decide (m.1 = 1) && decide (m.2=p)
inductive Rs
 | ok (c:St)
 | bad (a:Int)
def bndR(r:Rs)(f:St→Rs):Rs:=match r with | .bad a=>.bad a | .ok c=>f c
mutual
def exB(isN:Bs→Bool)(cal:Bs→Nat→Bool):Tz→Option Int
 | .mk k a s _ _ l=>if (k = 1∧isN s=false)∨(k = 5∧cal s l.length=false) then some a else exBs isN cal l
def exBs(isN:Bs→Bool)(cal:Bs→Nat→Bool):List Tz→Option Int
 | []=>none
 | x :: l=>match exB isN cal x with | some a=>some a | none=>exBs isN cal l
end
def inB(a:Int):List Bs→St→Rs
 | [],c=>.ok c
 | s :: l,c=>if namedB c.kn s=true then .bad a else inB a l { c with kn:=c.kn.put s (0,0),en:=c.en ++ [s] }
def paB(kn:Kn)(f:Bs):List Bs→List Bs→Bool
 | _,[]=>true
 | sn,s :: l=>if (s==f || isB kn s [1] || sn.contains s)=true then false else paB kn f (sn ++ [s]) l
def exR(o:Option Int)(r:Rs):Rs:=match o with | some a=>.bad a | none=>r
mutual
def stB:Tz→St→Rs
 | .mk k a s n ps l,c=>
  if k = 6 then bndR (inB a ps c) fun d=>.ok { d with se:=d.se ++ ps }
  else if k = 7 then bndR (inB a ps c) fun d=>.ok { d with pu:=d.pu ++ ps }
  else if k = 12 then
   if namedB c.kn s=true then .bad a else if paB c.kn s [] ps=false then .bad a else
   exR (exBs (fun t=>ps.contains t) (callB c.kn) (l.take 1)) (.ok { c with kn:=c.kn.put s (1,ps.length) })
  else if k = 10 then
   exR (exBs (wordB c.kn) (callB c.kn) (l.take 1)) (if isB c.kn s [0,1,3]=true then .bad a else if isB c.kn s [2]=true then .ok c else .ok { c with kn:=c.kn.put s (2,0),en:=c.en ++ [s] })
  else if k = 8∨k = 9 then
   exR (exBs (wordB c.kn) (callB c.kn) (l.take 1)) (if (c.ou.map (·.1)).contains s=true then .bad a else .ok { c with ou:=c.ou ++ [(s,decide (k = 9))] })
  else if k = 11 then
   exR (exBs (wordB c.kn) (callB c.kn) (l.take 2)) (if namedB c.kn s=true then .bad a else
    bndR (stBs 2 l { c with kn:=c.kn.put s (3,0),en:=c.en ++ [s] }) fun d=>.ok { d with kn:=d.kn.dels (d.en.drop c.en.length),en:=d.en.take c.en.length })
  else .ok c
def stBs:Nat→List Tz→St→Rs
 | _,[],c=>.ok c
 | 0,x :: l,c=>bndR (stB x c) fun d=>stBs 0 l d
 | i+1,_ :: l,c=>stBs i l c
end
theorem stBs_drop:∀ (i:Nat) (l:List Tz) (c:St),stBs i l c=stBs 0 (l.drop i) c
 | 0,l,c=>by rw [List.drop_zero]
 | i+1,[],c=>by simp [stBs]
 | i+1,x :: l,c=>by rw [List.drop_succ_cons,←stBs_drop i l c];conv=>lhs;unfold stBs
theorem stBs_cons(x:Tz)(l:List Tz)(c:St):stBs 0 (x :: l) c=bndR (stB x c) fun d=>stBs 0 l d:=by conv=>lhs;unfold stBs
theorem stBs_nil(i:Nat)(c:St):stBs i [] c = .ok c:=by unfold stBs;rfl
def sel:Bs:=[115,101,108]
def init:St:={ kn:=Kn.put (fun _=>none) sel (1,3),en:=[],se:=[],pu:=[],ou:=[] }
def lz:Tz→List Tz
 | .mk _ _ _ _ _ l=>l
def ckB(z:Tz):Rs:=stBs 0 (lz z) init
def Sorts(kn:Kn):Prop:=∀ s m,kn s=some m→m.1≤3
structure Ext(c d:St):Prop where
 kn:∀ s m,c.kn s=some m→d.kn s=some m
 en:∃ e,d.en=c.en ++ e∧(∀ s∈e,c.kn s=none∧∃ m,d.kn s=some m∧m.1≠1)∧∀ s m,d.kn s=some m→c.kn s=none→m.1≠1→s∈e
theorem Ext.refl(c:St):Ext c c:=⟨fun _ _ h=>h,[],by simp,by simp,fun s m h h'=>by rw [h'] at h;cases h⟩
theorem Ext.trans{c d f:St}(h:Ext c d)(h':Ext d f):Ext c f:=by
 obtain ⟨e,he,h1,h3⟩:=h.en;obtain ⟨e',he',h1',h3'⟩:=h'.en;refine ⟨fun s m hs=>h'.kn s m (h.kn s m hs),e ++ e',by rw [he',he,List.append_assoc],fun s hs=>?_,fun s m hs hn hm=>?_⟩
 ·rcases List.mem_append.1 hs with hs | hs
  ·obtain ⟨a,m,b,b'⟩:=h1 s hs;exact ⟨a,m,h'.kn s m b,b'⟩
  ·obtain ⟨a,b⟩:=h1' s hs;refine ⟨?_,b⟩;cases hc:c.kn s with
   | none=>rfl
   | some m=>rw [h.kn s m hc] at a;cases a
 ·cases hd:d.kn s with
  | none=>exact List.mem_append_right _ (h3' s m hs hd hm)
  | some m'=>
   have:=h'.kn s m' hd;rw [this] at hs;cases hs;exact List.mem_append_left _ (h3 s _ hd hn hm)
theorem namedB_no{kn:Kn}{s:Bs}(h:¬ namedB kn s=true):kn s=none:=by
 unfold namedB at h;cases hk:kn s with
 | none=>rfl
 | some m=>rw [hk] at h;simp at h
theorem Ext.new{c d:St}{s:Bs}{m:Nat×Nat}(hn:c.kn s=none)(hm:m.1≠1)(hk:d.kn=c.kn.put s m)(he:d.en=c.en ++ [s]):Ext c d:=by
 refine ⟨fun t m' ht=>?_,[s],he,fun t ht=>?_,fun t m' ht hc hm'=>?_⟩
 ·rw [hk];unfold Kn.put;rw [if_neg (fun e=>by subst e;rw [hn] at ht;cases ht)];exact ht
 ·obtain rfl:=List.mem_singleton.1 ht;exact ⟨hn,m,by rw [hk];unfold Kn.put;rw [if_pos rfl],hm⟩
 ·rw [hk] at ht;unfold Kn.put at ht;by_cases hts:t=s
  ·subst hts;simp
  ·rw [if_neg hts,hc] at ht;cases ht
theorem Ext.fn{c d:St}{s:Bs}{p:Nat}(hn:c.kn s=none)(hk:d.kn=c.kn.put s (1,p))(he:d.en=c.en):Ext c d:=by
 refine ⟨fun t m' ht=>?_,[],by rw [he];simp,by simp,fun t m' ht hc hm'=>?_⟩
 ·rw [hk];unfold Kn.put;rw [if_neg (fun e=>by subst e;rw [hn] at ht;cases ht)];exact ht
 ·rw [hk] at ht;unfold Kn.put at ht;by_cases hts:t=s
  ·rw [if_pos hts] at ht;cases ht;exact absurd rfl hm'
  ·rw [if_neg hts,hc] at ht;cases ht
theorem Ext.same{c d:St}(hk:d.kn=c.kn)(he:d.en=c.en):Ext c d:=
 ⟨fun s m h=>by rw [hk];exact h,[],by rw [he];simp,by simp,fun s m h h'=>by rw [hk,h'] at h;cases h⟩
theorem Ext.loop{c c1 d f:St}{s:Bs}{m:Nat×Nat}(hn:c.kn s=none)(hm:m.1≠1)(hk:c1.kn=c.kn.put s m)(he:c1.en=c.en ++ [s])(h:Ext c1 d)(hf:f.kn=d.kn.dels (d.en.drop c.en.length))(hfe:f.en=d.en.take c.en.length):Ext c f:=by
 have h0:=(Ext.new hn hm hk he).trans h;obtain ⟨e,h1,h2,h4⟩:=h0.en;have hd:d.en.drop c.en.length=e:=by rw [h1];simp
 have ht:d.en.take c.en.length=c.en:=by rw [h1];simp
 rw [hd] at hf;rw [ht] at hfe;refine ⟨fun t m' htm=>?_,[],by rw [hfe];simp,by simp,fun t m' htm hc hm'=>?_⟩
 ·rw [hf];unfold Kn.dels;rw [if_neg (fun hh=>by rw [(h2 t hh).1] at htm;cases htm)];exact h0.kn t m' htm
 ·rw [hf] at htm;unfold Kn.dels at htm;by_cases hte:t∈e
  ·rw [if_pos hte] at htm;cases htm
  ·rw [if_neg hte] at htm;exact absurd (h4 t m' htm hc hm') hte
theorem bnd_ok{r:Rs}{f:St→Rs}{d:St}(h:bndR r f = .ok d):∃ c,r = .ok c∧f c = .ok d:=by
 cases r with
 | bad a=>cases h
 | ok c=>exact ⟨c,rfl,h⟩
theorem exR_ok{o:Option Int}{r:Rs}{d:St}(h:exR o r = .ok d):o=none∧r = .ok d:=by
 cases o with
 | none=>exact ⟨rfl,h⟩
 | some a=>cases h
theorem inB_ext{a:Int}:∀ {ps:List Bs} {c d:St},inB a ps c = .ok d→Ext c d∧d.se=c.se∧d.pu=c.pu∧d.ou=c.ou
 | [],c,d,h=>by unfold inB at h;cases h;exact ⟨.refl _,rfl,rfl,rfl⟩
 | s :: l,c,d,h=>by
  unfold inB at h;by_cases hb:namedB c.kn s=true
  ·rw [if_pos hb] at h;cases h
  ·rw [if_neg hb] at h;obtain ⟨h1,h2,h3,h4⟩:=inB_ext h;exact ⟨(Ext.new (namedB_no hb) (by decide) rfl rfl).trans h1,h2,h3,h4⟩
theorem isB_none{kn:Kn}{s:Bs}(h1:¬ isB kn s [0,1,3]=true)(h2:¬ isB kn s [2]=true)(hs:Sorts kn):kn s=none:=by
 cases hk:kn s with
 | none=>rfl
 | some m=>
  exfalso;have:=hs s m hk;unfold isB at h1 h2;rw [hk] at h1 h2;simp at h1 h2;omega
theorem Sorts.put{kn:Kn}(h:Sorts kn){s:Bs}{m:Nat×Nat}(hm:m.1≤3):Sorts (kn.put s m):=fun t m' ht=>by
 unfold Kn.put at ht;by_cases e:t=s
 ·rw [if_pos e] at ht;cases ht;exact hm
 ·rw [if_neg e] at ht;exact h t m' ht
theorem Sorts.dels{kn:Kn}(h:Sorts kn)(l:List Bs):Sorts (kn.dels l):=fun t m' ht=>by
 unfold Kn.dels at ht;by_cases e:t∈l
 ·rw [if_pos e] at ht;cases ht
 ·rw [if_neg e] at ht;exact h t m' ht
theorem inB_sorts{a:Int}:∀ {ps:List Bs} {c d:St},inB a ps c = .ok d→Sorts c.kn→Sorts d.kn
 | [],c,d,h,hs=>by unfold inB at h;cases h;exact hs
 | s :: l,c,d,h,hs=>by
  unfold inB at h;by_cases hb:namedB c.kn s=true
  ·rw [if_pos hb] at h;cases h
  ·rw [if_neg hb] at h;exact inB_sorts h (hs.put (by decide))
mutual
theorem stB_ext:∀ {z:Tz} {c d:St},stB z c = .ok d→Sorts c.kn→Ext c d∧Sorts d.kn
 | .mk k a s n ps l,c,d,h,hs=>by
  unfold stB at h;by_cases h6:k = 6
  ·rw [if_pos h6] at h;obtain ⟨c1,h1,h2⟩:=bnd_ok h;cases h2;exact ⟨(inB_ext h1).1.trans (Ext.same rfl rfl),(show Sorts c1.kn from inB_sorts h1 hs)⟩
  rw [if_neg h6] at h;by_cases h7:k = 7
  ·rw [if_pos h7] at h;obtain ⟨c1,h1,h2⟩:=bnd_ok h;cases h2;exact ⟨(inB_ext h1).1.trans (Ext.same rfl rfl),(show Sorts c1.kn from inB_sorts h1 hs)⟩
  rw [if_neg h7] at h;by_cases h12:k = 12
  ·rw [if_pos h12] at h;by_cases hb:namedB c.kn s=true
   ·rw [if_pos hb] at h;cases h
   rw [if_neg hb] at h;by_cases hp:paB c.kn s [] ps=false
   ·rw [if_pos hp] at h;cases h
   rw [if_neg hp] at h;obtain ⟨_,h2⟩:=exR_ok h;cases h2;exact ⟨Ext.fn (namedB_no hb) rfl rfl,hs.put (by show 1≤3;decide)⟩
  rw [if_neg h12] at h;by_cases h10:k = 10
  ·rw [if_pos h10] at h;obtain ⟨_,h2⟩:=exR_ok h;by_cases hb:isB c.kn s [0,1,3]=true
   ·rw [if_pos hb] at h2;cases h2
   rw [if_neg hb] at h2;by_cases hv:isB c.kn s [2]=true
   ·rw [if_pos hv] at h2;cases h2;exact ⟨.refl _,hs⟩
   rw [if_neg hv] at h2;cases h2;exact ⟨Ext.new (isB_none hb hv hs) (by decide) rfl rfl,hs.put (by decide)⟩
  rw [if_neg h10] at h;by_cases h8:k = 8∨k = 9
  ·rw [if_pos h8] at h;obtain ⟨_,h2⟩:=exR_ok h;by_cases hb:(c.ou.map (·.1)).contains s=true
   ·rw [if_pos hb] at h2;cases h2
   rw [if_neg hb] at h2;cases h2;exact ⟨Ext.same rfl rfl,hs⟩
  rw [if_neg h8] at h;by_cases h11:k = 11
  ·rw [if_pos h11] at h;obtain ⟨_,h2⟩:=exR_ok h;by_cases hb:namedB c.kn s=true
   ·rw [if_pos hb] at h2;cases h2
   rw [if_neg hb] at h2;obtain ⟨c1,h3,h4⟩:=bnd_ok h2;cases h4;obtain ⟨h5,h6'⟩:=stBs_ext h3 (hs.put (by decide));exact ⟨Ext.loop (m:=(3,0)) (namedB_no hb) (by decide) rfl rfl h5 rfl rfl,h6'.dels _⟩
  rw [if_neg h11] at h;cases h;exact ⟨.refl _,hs⟩
theorem stBs_ext:∀ {i:Nat} {l:List Tz} {c d:St},stBs i l c = .ok d→Sorts c.kn→Ext c d∧Sorts d.kn
 | _,[],c,d,h,hs=>by rw [stBs_nil] at h;cases h;exact ⟨.refl _,hs⟩
 | 0,x :: l,c,d,h,hs=>by
  rw [stBs_cons] at h;obtain ⟨c1,h1,h2⟩:=bnd_ok h;obtain ⟨h3,h4⟩:=stB_ext h1 hs;obtain ⟨h5,h6⟩:=stBs_ext h2 h4;exact ⟨h3.trans h5,h6⟩
 | i+1,x :: l,c,d,h,hs=>by
  unfold stBs at h;exact stBs_ext h hs
end
theorem Ext.len{c d:St}(h:Ext c d):c.en.length≤d.en.length:=by
 obtain ⟨e,he,_⟩:=h.en;rw [he];simp
/-! An output that is left out. -/
end Go.Proofs.YtdhoemlomojfaaaGreatDoor.Nm
