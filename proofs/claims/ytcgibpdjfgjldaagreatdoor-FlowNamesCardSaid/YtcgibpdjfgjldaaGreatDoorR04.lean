/- DERIVED. ShArg, ShPl, NmSpec, NmMap, LxC, LxK, LxJ, PaSk, PaMo, PaAp, PaTop, PaTok, PaSt. By an AI agent. -/
import Derived.Test.YtcgibpdjfgjldaaGreatDoorR03
import Derived.Test.YtcgibpdjfgjldaaGreatDoorRows
import Derived.Maps.OwnSet
import Derived.Maps.Views
import Derived.StringKeys
import Derived.WalkKit
import Derived.BigQuiet
import Derived.Laws.Rows
import Derived.WalkLawsBesides
set_option maxRecDepth 100000
set_option maxHeartbeats 4000000
set_option linter.unusedVariables false
set_option linter.unusedSimpArgs false
namespace Go.Proofs.YtcgibpdjfgjldaaGreatDoor
namespace Sh
open Go Go.ChangeShapes Go.WideShapes Go.ChangeAt Go.RowKit Lx Args Pa
inductive Tz
 | mk (k a:Int) (s:Bs) (n:Nat) (ps:List Bs) (l:List Tz)
def nzC(k a:Int)(s:Bs)(n:Nat)(A:Option Addr)(la cA:Nat)(B:Option Addr)(lb cB:Nat):List Value:=
 [.int .i64 k,.string ⟨s.toArray⟩,.int .u32 (n:Int),.int .i64 a,.slice A la cA,.slice B lb cB]
mutual
def TIc(q:Prop)(w:World):Tz->List Value->Prop
 | .mk k a s n ps l,cs=>∃ A cA B cB,cs=nzC k a s n A l.length cA B ps.length cB/\l.length<=maxLen/\ps.length<=maxLen/\Af w B (ps.map ai) /\
   ∃ css,Af w A css.flatten/\Am q w l css/\(q->(l.length<=cA/\cA<=maxLen)/\ps.length<=cB/\cB<=maxLen)
def Am(q:Prop)(w:World):List Tz->List (List Value)->Prop
 | [],css=>css=[]
 | x :: l,css=>∃ c r,css=c :: r/\TIc q w x c/\Am q w l r
end
abbrev TIz(w:World):Tz->List Value->Prop:=TIc False w
abbrev TsIz(w:World):List Tz->List (List Value)->Prop:=Am False w
mutual
def nz:Tz->Prop
 | .mk _ _ _ n _ l=>n < 4294967296/\nzs l
def nzs:List Tz->Prop
 | []=>True
 | x :: l=>nz x/\nzs l
end
def bps:List Bs->Nat
 | []=>0
 | p :: ps=>p.length+1+bps ps
mutual
def bz:Tz->Nat
 | .mk _ _ s _ ps l=>s.length+bps ps+bzs l+1
def bzs:List Tz->Nat
 | []=>0
 | x :: l=>bz x+bzs l
end
section
variable {H : Type} {enc : TypeId × Value -> H} {w : World} {base : Nat} {spare : Nat -> Bool} {held : Bool}
end
end Sh
namespace Sh
open Lx Pa
mutual
def cntz:Tz->Nat
 | .mk _ _ _ _ _ l=>1+cnts l
def cnts:List Tz->Nat
 | []=>0
 | x :: l=>cntz x+cnts l
end
mutual
def bD:Tr->Tz
 | .mk k a s n ps l=>.mk (k:Int) (a:Int) s n ps (bS l)
def bS:List Tr->List Tz
 | []=>[]
 | x :: l=>bD x :: bS l
end
theorem q3j:∀ l:List Tr,(bS l).length=l.length
 | []=>rfl
 | x :: l=>by unfold bS;simp [q3j l]
mutual
def exT(dec:Nat->Bs):Tz->Bs
 | .mk k _ s n _ l=>if k = 0 then dec n else if k = 1 then s else if k = 2 then s ++ liT dec [] true true l else if k = 5 then s ++ [40] ++ liT dec [44,32] false true l ++ [41] else liT dec ([32] ++ s ++ [32]) true true l
def liT(dec:Nat->Bs)(bt:Bs)(op first:Bool):List Tz->Bs
 | []=>[]
 | x :: l=>(if first then [] else bt) ++ opT dec op x ++ liT dec bt op false l
def opT(dec:Nat->Bs)(op:Bool):Tz->Bs
 | .mk k _ s n _ l=>
  let t:=if k = 0 then dec n else if k = 1 then s else if k = 2 then s ++ liT dec [] true true l else if k = 5 then s ++ [40] ++ liT dec [44,32] false true l ++ [41] else liT dec ([32] ++ s ++ [32]) true true l
  if op && !(decide (k = 0) || decide (k = 1) || decide (k = 5)) then [40] ++ t ++ [41] else t
end
end Sh
namespace Nm
open Lx Pa Sh
abbrev Kn:=Bs->Option (Nat×Nat)
def Kn.put(kn:Kn)(s:Bs)(m:Nat×Nat):Kn:=fun t=>if t=s then some m else kn t
def Kn.cu(kn:Kn)(l:List Bs):Kn:=fun t=>if t∈l then none else kn t
structure St where
 kn:Kn
 en:List Bs
 se:List Bs
 pu:List Bs
 ou:List (Bs×Bool)
def isB(kn:Kn)(s:Bs)(l:List Nat):Bool:=match kn s with | none=>false | some m=>l.contains m.1
def aQ(kn:Kn)(s:Bs):Bool:=(kn s).isSome
def aA(kn:Kn)(s:Bs):Bool:=match kn s with | none=>false | some m=>!decide (m.1 = 1)
def aR(kn:Kn)(s:Bs)(p:Nat):Bool:=match kn s with | none=>false | some m=>decide (m.1 = 1) && decide (m.2=p)
inductive Rs
 | ok (c:St)
 | bad (a:Int)
def bndR(r:Rs)(f:St->Rs):Rs:=match r with | .bad a=>.bad a | .ok c=>f c
mutual
def exB(isN:Bs->Bool)(cal:Bs->Nat->Bool):Tz->Option Int
 | .mk k a s _ _ l=>if (k = 1/\isN s=false)\/(k = 5/\cal s l.length=false) then some a else aB isN cal l
def aB(isN:Bs->Bool)(cal:Bs->Nat->Bool):List Tz->Option Int
 | []=>none
 | x :: l=>match exB isN cal x with | some a=>some a | none=>aB isN cal l
end
def inB(a:Int):List Bs->St->Rs
 | [],c=>.ok c
 | s :: l,c=>if aQ c.kn s=true then .bad a else inB a l { c with kn:=c.kn.put s (0,0),en:=c.en ++ [s] }
def paB(kn:Kn)(f:Bs):List Bs->List Bs->Bool
 | _,[]=>true
 | sn,s :: l=>if (s==f || isB kn s [1] || sn.contains s)=true then false else paB kn f (sn ++ [s]) l
def exR(o:Option Int)(r:Rs):Rs:=match o with | some a=>.bad a | none=>r
mutual
def stB:Tz->St->Rs
 | .mk k a s n ps l,c=>
  if k = 6 then bndR (inB a ps c) fun d=>.ok { d with se:=d.se ++ ps }
  else if k = 7 then bndR (inB a ps c) fun d=>.ok { d with pu:=d.pu ++ ps }
  else if k = 12 then
   if aQ c.kn s=true then .bad a else if paB c.kn s [] ps=false then .bad a else
   exR (aB (fun t=>ps.contains t) (aR c.kn) (l.take 1)) (.ok { c with kn:=c.kn.put s (1,ps.length) })
  else if k = 10 then
   exR (aB (aA c.kn) (aR c.kn) (l.take 1)) (if isB c.kn s [0,1,3]=true then .bad a else if isB c.kn s [2]=true then .ok c else .ok { c with kn:=c.kn.put s (2,0),en:=c.en ++ [s] })
  else if k = 8\/k = 9 then
   exR (aB (aA c.kn) (aR c.kn) (l.take 1)) (if (c.ou.map (·.1)).contains s=true then .bad a else .ok { c with ou:=c.ou ++ [(s,decide (k = 9))] })
  else if k = 11 then
   exR (aB (aA c.kn) (aR c.kn) (l.take 2)) (if aQ c.kn s=true then .bad a else
    bndR (cO 2 l { c with kn:=c.kn.put s (3,0),en:=c.en ++ [s] }) fun d=>.ok { d with kn:=d.kn.cu (d.en.drop c.en.length),en:=d.en.take c.en.length })
  else .ok c
def cO:Nat->List Tz->St->Rs
 | _,[],c=>.ok c
 | 0,x :: l,c=>bndR (stB x c) fun d=>cO 0 l d
 | i+1,_ :: l,c=>cO i l c
end
theorem q3R:∀ (i:Nat) (l:List Tz) (c:St),cO i l c=cO 0 (l.drop i) c
 | 0,l,c=>by rw [List.drop_zero]
 | i+1,[],c=>by simp [cO]
 | i+1,x :: l,c=>by rw [List.drop_succ_cons,<-q3R i l c];conv=>lhs;unfold cO
theorem q1s(x:Tz)(l:List Tz)(c:St):cO 0 (x :: l) c=bndR (stB x c) fun d=>cO 0 l d:=by conv=>lhs;unfold cO
theorem q2r(i:Nat)(c:St):cO i [] c = .ok c:=by unfold cO;rfl
def sel:Bs:=[115,101,108]
def init:St:={ kn:=Kn.put (fun _=>none) sel (1,3),en:=[],se:=[],pu:=[],ou:=[] }
def lz:Tz->List Tz
 | .mk _ _ _ _ _ l=>l
def ckB(z:Tz):Rs:=cO 0 (lz z) init
def AQ(kn:Kn):Prop:=∀ s m,kn s=some m->m.1<=3
structure Ext(c d:St):Prop where
 kn:∀ s m,c.kn s=some m->d.kn s=some m
 en:∃ e,d.en=c.en ++ e/\(∀ s∈e,c.kn s=none/\∃ m,d.kn s=some m/\m.1≠1)/\∀ s m,d.kn s=some m->c.kn s=none->m.1≠1->s∈e
theorem Ext.refl(c:St):Ext c c:=⟨fun _ _ h=>h,[],V3,V3,fun s m h h'=>by rw [h'] at h;cases h⟩
theorem Ext.trans{c d f:St}(h:Ext c d)(h':Ext d f):Ext c f:=by
 obtain ⟨e,he,h1,h3⟩:=h.en;obtain ⟨e',he',h1',h3'⟩:=h'.en;refine ⟨fun s m hs=>h'.kn s m (h.kn s m hs),e ++ e',by rw [he',he,List.append_assoc],fun s hs=>?_,fun s m hs hn hm=>?_⟩
 ·rcases List.mem_append.1 hs with hs | hs
  ·obtain ⟨a,m,b,b'⟩:=h1 s hs;exact ⟨a,m,h'.kn s m b,b'⟩
  ·obtain ⟨a,b⟩:=h1' s hs;refine ⟨?_,b⟩;cases hc:c.kn s with
   | none=>rfl
   | some m=>rw [h.kn s m hc] at a;cases a
 ·cases hd:d.kn s with
  | none=>exact List.mem_append_right _ (h3' s m hs hd hm)
  | some m'=>
   have:=h'.kn s m' hd;rw [this] at hs;cases hs;exact List.mem_append_left _ (h3 s _ hd hn hm)
theorem q0y{kn:Kn}{s:Bs}(h:¬ aQ kn s=true):kn s=none:=by
 unfold aQ at h;cases hk:kn s with
 | none=>rfl
 | some m=>rw [hk] at h;simp at h
theorem Ext.new{c d:St}{s:Bs}{m:Nat×Nat}(hn:c.kn s=none)(hm:m.1≠1)(hk:d.kn=c.kn.put s m)(he:d.en=c.en ++ [s]):Ext c d:=by
 refine ⟨fun t m' ht=>?_,[s],he,fun t ht=>?_,fun t m' ht hc hm'=>?_⟩
 ·exact V3T
 ·obtain rfl:=List.mem_singleton.1 ht;exact ⟨hn,m,by rw [hk];unfold Kn.put;rw [if_pos rfl],hm⟩
 ·rw [hk] at ht;unfold Kn.put at ht;by_cases hts:t=s
  ·subst hts;simp
  ·rw [if_neg hts,hc] at ht;cases ht
theorem Ext.fn{c d:St}{s:Bs}{p:Nat}(hn:c.kn s=none)(hk:d.kn=c.kn.put s (1,p))(he:d.en=c.en):Ext c d:=by
 refine ⟨fun t m' ht=>?_,[],by rw [he];simp,V3,fun t m' ht hc hm'=>?_⟩
 ·exact V3T
 ·rw [hk] at ht;unfold Kn.put at ht;by_cases hts:t=s
  ·rw [if_pos hts] at ht;cases ht;exact absurd rfl hm'
  ·rw [if_neg hts,hc] at ht;cases ht
theorem Ext.same{c d:St}(hk:d.kn=c.kn)(he:d.en=c.en):Ext c d:=
 ⟨fun s m h=>by rw [hk];exact h,[],by rw [he];simp,V3,fun s m h h'=>by rw [hk,h'] at h;cases h⟩
theorem Ext.loop{c c1 d f:St}{s:Bs}{m:Nat×Nat}(hn:c.kn s=none)(hm:m.1≠1)(hk:c1.kn=c.kn.put s m)(he:c1.en=c.en ++ [s])(h:Ext c1 d)(hf:f.kn=d.kn.cu (d.en.drop c.en.length))(hfe:f.en=d.en.take c.en.length):Ext c f:=by
 have h0:=(Ext.new hn hm hk he).trans h;obtain ⟨e,h1,h2,h4⟩:=h0.en;have hd:d.en.drop c.en.length=e:=by rw [h1];simp
 have ht:d.en.take c.en.length=c.en:=by rw [h1];simp
 rw [hd] at hf;rw [ht] at hfe;refine ⟨fun t m' htm=>?_,[],by rw [hfe];simp,V3,fun t m' htm hc hm'=>?_⟩
 ·rw [hf];unfold Kn.cu;rw [if_neg (fun hh=>by rw [(h2 t hh).1] at htm;cases htm)];exact h0.kn t m' htm
 ·rw [hf] at htm;unfold Kn.cu at htm;by_cases hte:t∈e
  ·rw [if_pos hte] at htm;cases htm
  ·rw [if_neg hte] at htm;exact absurd (h4 t m' htm hc hm') hte
theorem q2l{r:Rs}{f:St->Rs}{d:St}(h:bndR r f = .ok d):∃ c,r = .ok c/\f c = .ok d:=by
 cases r with
 | bad a=>cases h
 | ok c=>exact ⟨c,rfl,h⟩
theorem q1m{o:Option Int}{r:Rs}{d:St}(h:exR o r = .ok d):o=none/\r = .ok d:=by
 cases o with
 | none=>exact ⟨rfl,h⟩
 | some a=>cases h
theorem q3k{a:Int}:∀ {ps:List Bs} {c d:St},inB a ps c = .ok d->Ext c d/\d.se=c.se/\d.pu=c.pu/\d.ou=c.ou
 | [],c,d,h=>by unfold inB at h;cases h;exact ⟨.refl _,rfl,rfl,rfl⟩
 | s :: l,c,d,h=>by
  unfold inB at h;by_cases hb:aQ c.kn s=true
  ·exact V07
  ·rw [if_neg hb] at h;obtain ⟨h1,h2,h3,h4⟩:=q3k h;exact ⟨(Ext.new (q0y hb) V2 rfl rfl).trans h1,h2,h3,h4⟩
theorem q4T{kn:Kn}{s:Bs}(h1:¬ isB kn s [0,1,3]=true)(h2:¬ isB kn s [2]=true)(hs:AQ kn):kn s=none:=by
 cases hk:kn s with
 | none=>rfl
 | some m=>
  exfalso;have:=hs s m hk;unfold isB at h1 h2;rw [hk] at h1 h2;simp at h1 h2;omega
theorem AQ.put{kn:Kn}(h:AQ kn){s:Bs}{m:Nat×Nat}(hm:m.1<=3):AQ (kn.put s m):=fun t m' ht=>by
 unfold Kn.put at ht;by_cases e:t=s
 ·rw [if_pos e] at ht;cases ht;exact hm
 ·rw [if_neg e] at ht;exact h t m' ht
theorem AQ.cu{kn:Kn}(h:AQ kn)(l:List Bs):AQ (kn.cu l):=fun t m' ht=>by
 unfold Kn.cu at ht;by_cases e:t∈l
 ·rw [if_pos e] at ht;cases ht
 ·rw [if_neg e] at ht;exact h t m' ht
theorem q3S{a:Int}:∀ {ps:List Bs} {c d:St},inB a ps c = .ok d->AQ c.kn->AQ d.kn
 | [],c,d,h,hs=>by unfold inB at h;cases h;exact hs
 | s :: l,c,d,h,hs=>by
  unfold inB at h;by_cases hb:aQ c.kn s=true
  ·exact V07
  ·rw [if_neg hb] at h;exact q3S h (hs.put V2)
mutual
theorem q3l:∀ {z:Tz} {c d:St},stB z c = .ok d->AQ c.kn->Ext c d/\AQ d.kn
 | .mk k a s n ps l,c,d,h,hs=>by
  unfold stB at h;by_cases h6:k = 6
  ·rw [if_pos h6] at h;exact V39
  rw [if_neg h6] at h;by_cases h7:k = 7
  ·rw [if_pos h7] at h;exact V39
  rw [if_neg h7] at h;by_cases h12:k = 12
  ·rw [if_pos h12] at h;by_cases hb:aQ c.kn s=true
   ·exact V07
   rw [if_neg hb] at h;by_cases hp:paB c.kn s [] ps=false
   ·rw [if_pos hp] at h;cases h
   rw [if_neg hp] at h;obtain ⟨_,h2⟩:=q1m h;cases h2;exact ⟨Ext.fn (q0y hb) rfl rfl,hs.put (by show 1<=3;decide)⟩
  rw [if_neg h12] at h;by_cases h10:k = 10
  ·rw [if_pos h10] at h;obtain ⟨_,h2⟩:=q1m h;by_cases hb:isB c.kn s [0,1,3]=true
   ·exact VP
   rw [if_neg hb] at h2;by_cases hv:isB c.kn s [2]=true
   ·rw [if_pos hv] at h2;cases h2;exact ⟨.refl _,hs⟩
   rw [if_neg hv] at h2;cases h2;exact ⟨Ext.new (q4T hb hv hs) V2 rfl rfl,hs.put V2⟩
  rw [if_neg h10] at h;by_cases h8:k = 8\/k = 9
  ·rw [if_pos h8] at h;obtain ⟨_,h2⟩:=q1m h;by_cases hb:(c.ou.map (·.1)).contains s=true
   ·exact VP
   rw [if_neg hb] at h2;cases h2;exact ⟨Ext.same rfl rfl,hs⟩
  rw [if_neg h8] at h;by_cases h11:k = 11
  ·rw [if_pos h11] at h;obtain ⟨_,h2⟩:=q1m h;by_cases hb:aQ c.kn s=true
   ·exact VP
   rw [if_neg hb] at h2;obtain ⟨c1,h3,h4⟩:=q2l h2;cases h4;obtain ⟨h5,h6'⟩:=q1f h3 (hs.put V2);exact ⟨Ext.loop (m:=(3,0)) (q0y hb) V2 rfl rfl h5 rfl rfl,h6'.cu _⟩
  rw [if_neg h11] at h;cases h;exact ⟨.refl _,hs⟩
theorem q1f:∀ {i:Nat} {l:List Tz} {c d:St},cO i l c = .ok d->AQ c.kn->Ext c d/\AQ d.kn
 | _,[],c,d,h,hs=>by rw [q2r] at h;cases h;exact ⟨.refl _,hs⟩
 | 0,x :: l,c,d,h,hs=>by
  rw [q1s] at h;obtain ⟨c1,h1,h2⟩:=q2l h;obtain ⟨h3,h4⟩:=q3l h1 hs;obtain ⟨h5,h6⟩:=q1f h2 h4;exact ⟨h3.trans h5,h6⟩
 | i+1,x :: l,c,d,h,hs=>by
  unfold cO at h;exact q1f h hs
end
theorem Ext.len{c d:St}(h:Ext c d):c.en.length<=d.en.length:=by
 obtain ⟨e,he,_⟩:=h.en;rw [he];simp
/-! An output that is left out. -/
end Nm
namespace Nm
open Go Go.ChangeShapes Go.WideShapes Go.ChangeAt Go.RowKit Lx Args Pa Sh
def meanR:Value->Option (DataW Unit×List MemPlace)
 | .agg cs=>match cs.toList with
  | [.int .i64 a,.int .i64 p]=>some (.agg [.lit (.int .i64 a),.lit (.int .i64 p)],[])
  | _=>none
 | _=>none
def mD(m:Nat×Nat):DataW Unit:=.agg [.lit (.int .i64 (m.1:Int)),.lit (.int .i64 (m.2:Int))]
theorem q3m(a p:Int):meanR (.agg #[.int .i64 a,.int .i64 p])=some (.agg [.lit (.int .i64 a),.lit (.int .i64 p)],[]):=by simp [meanR]
theorem q3T{v:Value}{m:Nat×Nat}{ps:List MemPlace}(h:meanR v=some (mD m,ps)):v = .agg #[.int .i64 (m.1:Int),.int .i64 (m.2:Int)]:=by
 unfold meanR at h;split at h
 ·rename_i cs;split at h
  ·rename_i a p hcs;simp only [Option.some.injEq,Prod.mk.injEq,mD,DataW.agg.injEq,List.cons.injEq,DataW.lit.injEq,Lit.int.injEq,true_and,and_true] at h;obtain ⟨⟨rfl,rfl⟩,_⟩:=h;have:cs=[Value.int .i64 (m.1:Int),.int .i64 (m.2:Int)].toArray:=by rw [<-hcs]
   rw [this]
  ·cases h
 ·cases h
theorem uStr:Tryz.prog.underlying 9=some .string:=V1
theorem law:Maps.Keyed Tryz.prog 9:=Maps.string_keyed uStr
theorem q1t{s:Bs}(hs:s.length<=maxLen):keyOf Tryz.prog 9 (.string ⟨s.toArray⟩)=some (.string s):=by
 have:=WideMaps.keyOf_string_mk (P:=Tryz.prog) (k:=9) uStr (s:=⟨s.toArray⟩) (by simpa [ByteArray.size] using hs);simpa using this
theorem isKeyS(s:Bs):WideAt.IsKeyLit (.string s):=trivial
theorem q1T{s t:Bs}(h:t≠s):(Lit.string t)≠.string s:=fun e=>h VG
structure MpK(w:World)(b n:Nat)(kn:Kn):Prop where
 ex:∃ D:DataW Unit,w.ownsMap Tryz.prog 9 meanR b n D/\∀ s:Bs,s.length<=maxLen->Maps.has D (.string s)=(kn s).isSome/\∀ m,kn s=some m->∀ z,D.atKey (.string s) z=mD m
 sorts:∀ s m,kn s=some m->m.1<=3/\m.2<=maxLen
structure MpS(w:World)(b n:Nat)(f:Bs->Bool):Prop where
 ex:∃ D:DataW Unit,w.ownsMap Tryz.prog 9 (unitElem (H:=Unit)) b n D/\∀ s:Bs,s.length<=maxLen->Maps.has D (.string s)=f s
theorem zMn(w:World):(zeroValue 104).run Tryz.prog w = .ok (.agg #[.int .i64 0,.int .i64 0]) w:=V1
theorem zUn(w:World):(zeroValue 229).run Tryz.prog w = .ok (.agg #[]) w:=V1
section
variable {w w' : World} {b n : Nat} {kn : Kn} {f : Bs -> Bool} {s : Bs}
theorem MpK.lt(h:MpK w b n kn):b < w.heap.size:=by obtain ⟨D,h1,_⟩:=h.ex;exact h1.lt
theorem MpS.lt(h:MpS w b n f):b < w.heap.size:=by obtain ⟨D,h1⟩:=h.ex;exact h1.1.lt
theorem q3n{R:Value->Option (DataW Unit×List MemPlace)}{D:DataW Unit}(h:w.ownsMap Tryz.prog 9 R b n D)(e:w'.heap[b]?=w.heap[b]?):w'.ownsMap Tryz.prog 9 R b n D:=by
 obtain ⟨es,clock,hb,h2⟩:=h;exact ⟨es,clock,e.trans hb,h2⟩
theorem MpK.heap(h:MpK w b n kn)(e:w'.heap[b]?=w.heap[b]?):MpK w' b n kn:=by
 obtain ⟨D,h1,h2⟩:=h.ex;exact ⟨⟨D,q3n h1 e,h2⟩,h.sorts⟩
theorem MpS.heap(h:MpS w b n f)(e:w'.heap[b]?=w.heap[b]?):MpS w' b n f:=by
 obtain ⟨D,h1,h2⟩:=h.ex;exact ⟨⟨D,q3n h1 e,h2⟩⟩
theorem MpK.upd{X:Nat->Prop}(h:MpK w b n kn)(hu:Upd X w w')(hx:¬ X b):MpK w' b n kn:=h.heap (hu.block b h.lt hx)
theorem MpS.upd{X:Nat->Prop}(h:MpS w b n f)(hu:Upd X w w')(hx:¬ X b):MpS w' b n f:=h.heap (hu.block b h.lt hx)
theorem MpK.mono(h:MpK w b n kn){m:Nat}(hm:n<=m):MpK w b m kn:=by
 obtain ⟨D,h1,h2⟩:=h.ex;exact ⟨⟨D,h1.mono hm,h2⟩,h.sorts⟩
theorem MpS.mono(h:MpS w b n f){m:Nat}(hm:n<=m):MpS w b m f:=by
 obtain ⟨D,h1,h2⟩:=h.ex;exact ⟨⟨D,h1.mono hm,h2⟩⟩
def kAt(kn:Kn)(s:Bs):Nat×Nat:=(kn s).getD (0,0)
theorem MpK.val(h:MpK w b n kn)(hs:s.length<=maxLen){D:DataW Unit}(hD:∀ s:Bs,s.length<=maxLen->Maps.has D (.string s)=(kn s).isSome/\∀ m,kn s=some m->∀ z,D.atKey (.string s) z=mD m){v:Value}{ps:List MemPlace}
  (hv:meanR v=some (D.atKey (.string s) (mD (0,0)),ps)):v = .agg #[.int .i64 ((kAt kn s).1:Int),.int .i64 ((kAt kn s).2:Int)]:=by
 obtain ⟨h1,h2⟩:=hD s hs;unfold kAt;cases hk:kn s with
 | none=>
  rw [hk] at h1;rw [Maps.atKey_of_not_has h1] at hv;exact q3T hv
 | some m=>
  rw [h2 m hk] at hv;exact q3T hv
theorem MpK.look(h:MpK w b n kn)(hs:s.length<=maxLen):(Instr.lookup 105 (.map (some b)) (.string ⟨s.toArray⟩) true).run Tryz.prog w = .ok (.tuple #[.agg #[.int .i64 ((kAt kn s).1:Int),.int .i64 ((kAt kn s).2:Int)],.bool (kn s).isSome]) w:=by
 obtain ⟨D,h1,h2⟩:=h.ex;obtain ⟨v,ps,hr,hv⟩:=h1.look_ok law Tryz.underlying105 (zMn w) (zd:=mD (0,0)) (q3m 0 0) (q1t hs);rw [hr,h.val hs h2 hv,(h2 s hs).1]
theorem MpK.look1(h:MpK w b n kn)(hs:s.length<=maxLen):(Instr.lookup 105 (.map (some b)) (.string ⟨s.toArray⟩) false).run Tryz.prog w = .ok (.agg #[.int .i64 ((kAt kn s).1:Int),.int .i64 ((kAt kn s).2:Int)]) w:=by
 obtain ⟨D,h1,h2⟩:=h.ex;obtain ⟨v,ps,hr,hv⟩:=h1.lookup law Tryz.underlying105 (zMn w) (zd:=mD (0,0)) (q3m 0 0) (q1t hs);rw [hr,h.val hs h2 hv]
theorem MpS.look(h:MpS w b n f)(hs:s.length<=maxLen):(Instr.lookup 107 (.map (some b)) (.string ⟨s.toArray⟩) true).run Tryz.prog w = .ok (.tuple #[.agg #[],.bool (f s)]) w:=by
 obtain ⟨D,h1,h2⟩:=h.ex;obtain ⟨v,ps,hr,hv⟩:=h1.look_ok law Tryz.underlying107 (zUn w) (zd:=.agg []) unitElem_mk (q1t hs);obtain ⟨rfl,_⟩:=unitElem_inv hv;rw [hr,h2 s hs]
theorem q0f{X:Nat->Prop}(h:w.mapTurned w' b)(hx:X b):Upd X w w':=(Upd.refl X w).grown h.grown fun k hk _=>by cases hk;exact hx
theorem MpK.put(h:MpK w b n kn)(hs:s.length<=maxLen)(hn:n < maxLen)(m:Nat×Nat)(hm:m.1<=3)(hm2:m.2<=maxLen) :
  ∃ w',(Instr.mapUpdate 105 (.map (some b)) (.string ⟨s.toArray⟩) (.agg #[.int .i64 (m.1:Int),.int .i64 (m.2:Int)])).run Tryz.prog w = .ok () w'/\MpK w' b (n+1) (kn.put s m)/\w.mapTurned w' b:=by
 obtain ⟨D,h1,h2⟩:=h.ex;obtain ⟨w',hr,h3,h4⟩:=h1.store law Tryz.underlying105 hn (q1t hs) (d:=mD m) (q3m _ _);refine ⟨w',hr,⟨⟨_,h3,fun t ht=>?_⟩,fun t m' ht=>?_⟩,h4⟩
 ·unfold Kn.put;by_cases e:t=s
  ·exact V2Q
  ·rw [if_neg e];refine ⟨(Maps.has_put_other (q1T e) _).trans (h2 t ht).1,fun m' hm' z=>(Maps.atKey_put_other (q1T e) _ _).trans ((h2 t ht).2 m' hm' z)⟩
 ·unfold Kn.put at ht;by_cases e:t=s
  ·rw [if_pos e] at ht;cases ht;exact ⟨hm,hm2⟩
  ·rw [if_neg e] at ht;exact h.sorts t m' ht
theorem MpK.del(h:MpK w b n kn)(hs:s.length<=maxLen)(ty:TypeId) :
  ∃ w',(Builtin.delete_ #[105,9] ty #[.map (some b),.string ⟨s.toArray⟩]).run Tryz.prog w = .ok (.tuple #[]) w'/\MpK w' b n (kn.cu [s])/\w.mapTurned w' b:=by
 obtain ⟨D,h1,h2⟩:=h.ex;obtain ⟨w',hr,h3,h4⟩:=h1.drop law Tryz.underlying105 (q1t hs) ty;refine ⟨w',hr,⟨⟨_,h3,fun t ht=>?_⟩,fun t m' ht=>?_⟩,h4⟩
 ·unfold Kn.cu;by_cases e:t=s
  ·subst e;rw [if_pos V3];exact ⟨Maps.has_del_same,fun m' hm'=>by cases hm'⟩
  ·rw [if_neg V0D];exact V37
 ·unfold Kn.cu at ht;by_cases e:t∈[s]
  ·rw [if_pos e] at ht;cases ht
  ·rw [if_neg e] at ht;exact h.sorts t m' ht
theorem MpS.put(h:MpS w b n f)(hs:s.length<=maxLen)(hn:n < maxLen) :
  ∃ w',(Instr.mapUpdate 107 (.map (some b)) (.string ⟨s.toArray⟩) (.agg #[])).run Tryz.prog w = .ok () w'/\MpS w' b (n+1) (fun t=>f t || t==s)/\w.mapTurned w' b:=by
 obtain ⟨D,h1,h2⟩:=h.ex;obtain ⟨w',hr,h3,h4⟩:=h1.store law Tryz.underlying107 hn (q1t hs) (d:=.agg []) unitElem_mk;refine ⟨w',hr,⟨⟨_,h3,fun t ht=>?_⟩⟩,h4⟩;by_cases e:t=s
 ·subst e;rw [Maps.has_put_same h1.isMap (isKeyS _)];simp
 ·rw [Maps.has_put_other (q1T e),h2 t ht];have:(t==s)=false:=V0D;rw [this,Bool.or_false]
theorem MpK.made(w:World):MpK (w.alloc (.map #[] 0)) w.heap.size 0 (fun _=>none):=
 ⟨⟨_,World.ownsMap_made w _ _ _,fun s _=>⟨rfl,fun m hm=>by cases hm⟩⟩,fun s m hm=>by cases hm⟩
theorem MpS.made(w:World):MpS (w.alloc (.map #[] 0)) w.heap.size 0 (fun _=>false):=⟨⟨_,World.ownsMap_made w _ _ _,fun s _=>rfl⟩⟩
end
end Nm
namespace Lx
open Go Go.ChangeShapes Go.WideShapes Go.ChangeAt Go.RowKit Args
theorem letter(c:UInt8)(w:World):Calls Tryz.prog 49 #[.int .u8 ((c.toNat:Nat):Int)] w fun e w'=>e = .returned (.bool (dx c))/\w=w':=by
 have hb:dx c=((decide (65<=c.toNat) && decide (c.toNat<=90)) || (decide (97<=c.toNat) && decide (c.toNat<=122))):=rfl;generalize dx c=b at *;generalize c.toNat=k at *;by_cases h1:65<=k
 ·by_cases h2:k<=90
  ·have HB:=Hi (show b=true from V12);have i1:decide ((65:Int)<=(k:Int))=true:=V4;have i2:decide ((k:Int)<=90)=true:=V4;clear hb h1 h2;exact V0p
  ·by_cases h3:97<=k
   ·by_cases h4:k<=122
    ·have HB:=Hi (show b=true by rw [hb];simp [h3,h4]);have i1:decide ((65:Int)<=(k:Int))=true:=V4;have i2:decide ((k:Int)<=90)=false:=V4;have i3:decide ((97:Int)<=(k:Int))=true:=V4;have i4:decide ((k:Int)<=122)=true:=V4;clear hb h1 h2 h3 h4;exact V0p
    ·have HB:=Hi (show b=false from Vu);have i1:decide ((65:Int)<=(k:Int))=true:=V4;have i2:decide ((k:Int)<=90)=false:=V4;have i3:decide ((97:Int)<=(k:Int))=true:=V4;have i4:decide ((k:Int)<=122)=false:=V4;clear hb h1 h2 h3 h4;exact V0p
   ·have HB:=Hi (show b=false from Vu);have i1:decide ((65:Int)<=(k:Int))=true:=V4;have i2:decide ((k:Int)<=90)=false:=V4;have i3:decide ((97:Int)<=(k:Int))=false:=V4;clear hb h1 h2 h3;exact V0p
 ·have HB:=Hi (show b=false from Vu);have i1:decide ((65:Int)<=(k:Int))=false:=V4;have i3:decide ((97:Int)<=(k:Int))=false:=V4;clear hb h1;exact V0p
theorem num(c:UInt8)(w:World):Calls Tryz.prog 50 #[.int .u8 ((c.toNat:Nat):Int)] w fun e w'=>e = .returned (.bool (numB c))/\w=w':=by
 have hb:numB c=(decide (48<=c.toNat) && decide (c.toNat<=57)):=rfl;generalize numB c=b at *;generalize c.toNat=k at *;by_cases h1:48<=k
 ·by_cases h2:k<=57
  ·have HB:=Hi (show b=true from V12);have i1:decide ((48:Int)<=(k:Int))=true:=V4;have i2:decide ((k:Int)<=57)=true:=V4;clear hb h1 h2;exact V1X
  ·have HB:=Hi (show b=false from Vu);have i1:decide ((48:Int)<=(k:Int))=true:=V4;have i2:decide ((k:Int)<=57)=false:=V4;clear hb h1 h2;exact V1X
 ·have HB:=Hi (show b=false from Vu);have i1:decide ((48:Int)<=(k:Int))=false:=V4;clear hb h1;exact V1X
abbrev strs(l:List Bs):List Value:=l.map fun t=>.string ⟨t.toArray⟩
theorem inL(l:List Bs)(s:Bs):∀ k,(∀ j,j < k->l[j]?≠some s)->(l.drop k).contains s=l.contains s:=fun k h=>by
 induction k generalizing l with
 | zero=>rfl
 | succ k ih=>
  cases l with
  | nil=>rfl
  | cons x l=>
   rw [List.drop_succ_cons,ih l fun j hj=>by have:=h (j+1) V0;simpa using this];have hx:x≠s:=fun e=>h 0 V0 (by simp [e])
   simp only [List.contains_eq_mem,List.mem_cons,Ne.symm hx,false_or]
theorem in_(A:Option Addr)(c:Nat)(l:List Bs)(s:ByteArray)(w:World)(hA:Af w A (strs l))(hl:l.length<=1000) :
  Calls Tryz.prog 52 #[.slice A l.length c,.string s] w fun e w'=>e = .returned (.bool (l.contains s.data.toList))/\w=w':=by
 have hin:=inL l s.data.toList;have HA:=Hi hA;have HIN:=Hi hin;clear hA hin;generalize hb:l.contains s.data.toList=b at *;have HB:=Hi hb;clear hb;go_enter Tryz.func52,Tryz.ntmps52;go_wp2_with fail
 go_loop [5] (fun vi=>∃ k:Nat,k<=l.length/\vi = .int .i64 k/\Hid (∀ j,j < k->l[j]?≠some s.data.toList)) (fun vi=>l.length - (intOf vi).toNat)
 case atStart=>exact ⟨0,V0,rfl,Hi fun j hj=>absurd hj V0⟩
 case round=>
  exact V2e
theorem q0K(w:World)(t:TypeId)(l:List Bs):Af (w.alloc (.cells (strs l).toArray t)) (some ⟨w.heap.size,0,none⟩) (strs l):=fun j u hj=>⟨_,rfl,by
 rw [Args.add_plain,Nat.zero_add,World.cell?_alloc_at _ _ _ _ rfl];simpa using hj⟩
theorem word(s:ByteArray)(w:World):Calls Tryz.prog 51 #[.string s] w fun e w'=>e = .returned (.bool (aA s.data.toList))/\Below w.heap.size w w':=by
 have hI:=in_ (some ⟨w.heap.size,0,none⟩) 7 words7 s (w.alloc (.cells (strs words7).toArray 9)) (q0K w 9 words7) V2;have hx:Below w.heap.size w (w.alloc (.cells (strs words7).toArray 9)):=(Below.refl _ _).alloc (Nat.le_refl _) _;have HX:=Hi hx;rw [show words7.contains s.data.toList=aA s.data.toList from rfl] at hI;generalize aA s.data.toList=b at *;have HI:=Hi hI;clear hI hx;go_enter Tryz.func51,Tryz.ntmps51;go_wp2_with fail
 refine HI.out.mono ?_;rintro e w' ⟨rfl,rfl⟩;go_wp2_with fail
 go_ret;exact ⟨rfl,HX.out⟩
theorem q4z{c:UInt8}{n:Nat}(h:c.toNat=n):c=UInt8.ofNat n:=by rw [<-h];simp
theorem skip_sp{c:UInt8}{r:Bs}(h:c.toNat = 32\/c.toNat = 9\/c.toNat = 10):aj false (c :: r)=aj false r+1:=by
 rcases h with h | h | h <;> (rw [q4z h];rfl)
theorem skip_cm{c d:UInt8}{r:Bs}(h:c.toNat = 47)(h2:d.toNat = 47):aj false (c :: d :: r)=aj true (c :: d :: r):=by
 rw [q4z h,q4z h2];rfl
theorem q3U{c:UInt8}{n:Nat}(h:c.toNat≠n)(hn:n < 256):c≠UInt8.ofNat n:=fun e=>h (by rw [e];simp;omega)
theorem q4A{c:UInt8}{r:Bs}(h1:c.toNat≠32)(h2:c.toNat≠9)(h3:c.toNat≠10)(h4:c.toNat = 47->∀ d,r.head?=some d->d.toNat≠47):aj false (c :: r) = 0:=by
 have e1:=q3U h1 V2;have e2:=q3U h2 V2;have e3:=q3U h3 V2;have f1:c≠32:=e1;have f2:c≠9:=e2;have f3:c≠10:=e3;unfold aj;rw [if_neg (by simp [f1,f2,f3])];by_cases h:c.toNat = 47
 ·cases r with
  | nil=>simp
  | cons d r=>
   have f4:d≠47:=q3U (h4 h d rfl) V2;rw [if_neg (by simp [f4])]
 ·have f4:c≠47:=q3U h V2;rw [if_neg (by simp [f4])]
theorem cm_nl{c:UInt8}{r:Bs}(h:c.toNat = 10):aj true (c :: r)=aj false (c :: r):=by rw [q4z h];rfl
theorem cm_on{c:UInt8}{r:Bs}(h:c.toNat≠10):aj true (c :: r)=aj true r+1:=by
 have f:c≠10:=q3U h V2;show (if c==10 then aj false r+1 else aj true r+1)=_;rw [if_neg (by simp [f])]
theorem drop_at(s:ByteArray)(k:Nat)(h:k < s.size):s.data.toList.drop k=s[k] :: s.data.toList.drop (k+1):=by
 have h':k < s.data.toList.length:=Va;rw [List.drop_eq_getElem_cons h'];rfl
theorem q0P(s:ByteArray)(k:Nat)(h:s.size<=k):s.data.toList.drop k=[]:=List.drop_of_length_le Va
theorem skip(s:ByteArray)(i:Nat)(hi:i<=s.size)(hs:s.size<=100000)(w:World) :
  Calls Tryz.prog 48 #[.string s,.int .i64 (i:Int)] w fun e w'=>e = .returned (.int .i64 ((i+aj false (s.data.toList.drop i):Nat):Int))/\w=w':=by
 obtain ⟨r,hr⟩:∃ r,i+aj false (s.data.toList.drop i)=r:=⟨_,rfl⟩;rw [hr];have HR:=Hi hr;clear hr;go_enter Tryz.func48,Tryz.ntmps48;go_wp2_with fail
 go_loop [1] (fun vi=>∃ k:Nat,k<=s.size/\vi = .int .i64 k/\Hid (k+aj false (s.data.toList.drop k)=r)) (fun vi=>s.size - (intOf vi).toNat)
 case atStart=>exact ⟨i,hi,rfl,HR⟩
 case round=>
  clear HR;obtain ⟨k,hk,rfl,HQ⟩:=hrel;by_cases hlt:k < s.size
  ·have hd:=drop_at s k hlt;have hq:=HQ.out;rw [hd] at hq;have hc:=s[k].toNat_lt;by_cases h32:s[k].toNat = 32\/s[k].toNat = 9\/s[k].toNat = 10
   ·rw [skip_sp h32] at hq;have HN:=Hi (show k+1+aj false (s.data.toList.drop (k+1))=r from V0);clear hd hq;by_cases n1:s[k].toNat = 32
    ·have e1:((s[k].toNat:Int)==32)=true:=by simp;omega
     clear h32 n1 hc HQ;exact V0K
    ·have e1:((s[k].toNat:Int)==32)=false:=by simp;omega
     by_cases n2:s[k].toNat = 9
     ·have e2:((s[k].toNat:Int)==9)=true:=by simp;omega
      clear h32 n1 n2 hc HQ;exact V0K
     ·have e2:((s[k].toNat:Int)==9)=false:=by simp;omega
      have e3:((s[k].toNat:Int)==10)=true:=V4;clear h32 n1 n2 hc HQ;exact V0K
   ·have n1:s[k].toNat≠32:=by omega
    have n2:s[k].toNat≠9:=V0;have n3:s[k].toNat≠10:=V0;have e1:((s[k].toNat:Int)==32)=false:=V4;have e2:((s[k].toNat:Int)==9)=false:=V4;have e3:((s[k].toNat:Int)==10)=false:=V4;have e10:((s[k].toNat:Int) != 10)=true:=V4;by_cases h47:s[k].toNat = 47
    ·by_cases hk1:k+1 < s.size
     ·have hd1:=drop_at s (k+1) hk1;by_cases h48:s[k+1].toNat = 47
      ·rw [hd1,skip_cm h47 h48,<-hd1,<-hd] at hq;have HN:=Hi hq;have HW:Hid (∀ h:k < s.size,s[k].toNat = 10->k < k):=Hi fun h e=>V0
       have e4:((s[k].toNat:Int)==47)=true:=V4;have e5:((s[k+1].toNat:Int)==47)=true:=V4;have hk1':(k:Int)+1 < (s.size:Int):=V0;clear hd hq hd1 h32 h47 h48 hc n1 n2 n3 HQ;go_wp2_with fail
       go_loop [1] (fun vi=>∃ m:Nat,(m<=s.size/\k<=m)/\vi = .int .i64 m/\Hid (m+aj true (s.data.toList.drop m)=r)/\Hid (∀ h:m < s.size,s[m].toNat = 10->k < m)) (fun vi=>s.size - (intOf vi).toNat)
       case atStart=>exact ⟨k,⟨V0,Nat.le_refl _⟩,rfl,HN,HW⟩
       case round=>
        clear HN;obtain ⟨m,⟨hm,hkm⟩,rfl,HM,HV⟩:=hrel;by_cases hlt2:m < s.size
        ·have hd2:=drop_at s m hlt2;have hq2:=HM.out;rw [hd2] at hq2;by_cases n10:s[m].toNat = 10
         ·rw [cm_nl n10,<-hd2] at hq2;have HN:=Hi hq2;have hlt3:k < m:=HV.out hlt2 n10;have e6:((s[m].toNat:Int) != 10)=false:=V4;clear hq2 hd2 n10 HM;exact V3v
         ·rw [cm_on n10] at hq2;have HN:=Hi (show m+1+aj true (s.data.toList.drop (m+1))=r from V0);have e6:((s[m].toNat:Int) != 10)=true:=V4;clear hq2 hd2 n10 HM;go_wp2_with fail
          go_round
          case rel=>exact ⟨m+1,⟨V0,V0⟩,V7,HN,Hi fun _ _=>V0⟩
          case measure=>simp [intOf];omega
        ·rw [q0P s m V0] at HM;have HN:=Hi (show m+aj false (s.data.toList.drop m)=r by rw [q0P s m V0];exact HM.out);clear HM;exact V3v
      ·have h0:aj false (s[k] :: s.data.toList.drop (k+1)) = 0:=q4A n1 n2 n3 fun _ d hd'=>by rw [hd1] at hd';cases hd';exact h48
       rw [h0] at hq;have HE:=Hi (show r=k from hq.symm);have e4:((s[k].toNat:Int)==47)=true:=V4;have e5:((s[k+1].toNat:Int)==47)=false:=V4;have hk1':(k:Int)+1 < (s.size:Int):=V0;clear hd hq hd1 h32 h47 h48 hc n1 n2 n3 HQ h0;exact V0M
     ·have h0:aj false (s[k] :: s.data.toList.drop (k+1)) = 0:=q4A n1 n2 n3 fun _ d hd'=>by rw [q0P s (k+1) V0] at hd';cases hd'
      rw [h0] at hq;have HE:=Hi (show r=k from hq.symm);have e4:((s[k].toNat:Int)==47)=true:=V4;clear hd hq h32 h47 hc n1 n2 n3 HQ h0;exact V0M
    ·have h0:aj false (s[k] :: s.data.toList.drop (k+1)) = 0:=q4A n1 n2 n3 fun h=>absurd h h47
     rw [h0] at hq;have HE:=Hi (show r=k from hq.symm);have e4:((s[k].toNat:Int)==47)=false:=V4;clear hd hq h32 h47 hc n1 n2 n3 HQ h0;exact V0M
  ·rw [q0P s k V0] at HQ;have HE:=Hi (show r=k from HQ.out.symm);clear HQ;exact V0M
def tkC(t:Tk):List Value:=[.int .i64 (t.k:Int),.string ⟨t.s.toArray⟩,.int .i64 (t.at_:Int)]
theorem q0l{B:Nat}{w w':World}(h:Below B w w')(n:Nat):Below B w (w'.drewN n):=⟨h.os,h.tape,h.output,h.size,h.block⟩
end Lx
namespace Pa
open Lx
def NT.sk:NT->NT
 | .aI n=>.aI n
 | .more n x=>.more n (Pa.sk x)
 | .args l=>.args (skL l)
 | .fin k _ s ps=>.fin k 0 s ps
 | .inner=>.inner
 | .aM l=>.aM (skL l)
 | .stmt=>.stmt
 | .stmts l=>.stmts (skL l)
def Le(o o':OO):Prop:=∀ x,o=some x->o'=some x
theorem le_refl(o:OO):Le o o:=fun _ h=>h
theorem q15{c:Prop}[Decidable c]{o o' p p':OO}(h1:Le o o')(h2:Le p p'):Le (if c then o else p) (if c then o' else p'):=by
 by_cases h:c
 ·rw [if_pos h,if_pos h];exact h1
 ·rw [if_neg h,if_neg h];exact h2
theorem q1n{o o':OO}{f f':List Tr->List Tk->OO}(h:Le o o')(hf:∀ xs r,Le (f xs r) (f' xs r)):Le (bnd o f) (bnd o' f'):=by
 rcases o with _ | ⟨l,r⟩ | ⟨a,e⟩
 ·intro x hx;cases hx
 ·rw [h _ rfl];exact hf l r
 ·rw [h _ rfl];exact le_refl _
theorem q1g{b:Bs}{l:List Tk}{f f':List Tk->OO}(hf:∀ r,Le (f r) (f' r)):Le (must b l f) (must b l f'):=by
 cases l with
 | nil=>exact le_refl _
 | cons t l=>unfold must;exact q15 (hf _) (le_refl _)
theorem q28{l:List Tk}{f f':Bs->List Tk->OO}(hf:∀ s r,Le (f s r) (f' s r)):Le (bE l f) (bE l f'):=by
 cases l with
 | nil=>exact le_refl _
 | cons t l=>unfold bE;exact q15 (hf _ _) (le_refl _)
theorem q4U{f f':List Bs->List Tk->OO}(hf:∀ ps r,Le (f ps r) (f' ps r)):∀ (ps:List Bs) (l:List Tk),Le (aC ps l f) (aC ps l f')
 | _,[]=>le_refl _
 | ps,[t]=>by unfold aC;exact q15 (hf _ _) (le_refl _)
 | ps,t :: u :: r=>by unfold aC;exact q15 (q15 (q4U hf _ r) (hf _ _)) (le_refl _)
theorem q3o(num:Bs->Nat×Nat):∀ (f g:Nat),f<=g->∀ (nt:NT) (d:Nat) (l:List Tk),Le (pF num f nt d l) (pF num g nt d l):=by
 intro f
 induction f with
 | zero=>intro g _ nt d l x hx;cases hx
 | succ f ih0=>
  intro g hg nt d l;obtain ⟨g,rfl⟩:∃ x,g=x+1:=⟨g - 1,V0⟩;have ih:=ih0 g V0;clear ih0;cases nt with
  | aI n=>
   unfold pF;refine q15 (q1n (ih _ _ _) fun xs r=>ih _ _ _) ?_;cases l with
   | nil=>exact le_refl _
   | cons t r=>
    simp only;refine q15 (le_refl _) (q15 (q1n (ih _ _ _) fun xs r=>le_refl _) (q15 (le_refl _) (q15 (q1n (ih _ _ _) fun xs r=>le_refl _) (q28 fun s r=>?_))));cases r with
    | nil=>exact le_refl _
    | cons u r=>exact q15 (q1n (ih _ _ _) fun xs r=>q1n (ih _ _ _) fun ys r=>le_refl _) (le_refl _)
  | more n x=>
   exact V3h
  | args xs=>
   exact V3h
  | fin k a s ps=>
   unfold pF;exact q1n (ih _ _ _) fun xs r=>le_refl _
  | inner=>
   unfold pF;cases l with
   | nil=>exact le_refl _
   | cons t r=>
    exact q15 (le_refl _) (q15 (q28 fun s r=>q1g fun r=>q1n (ih _ _ _) fun xs r=>q1g fun r=>q1n (ih _ _ _) fun ys r=>q1g fun r=>q1n (ih _ _ _) fun zs r=>le_refl _) (q28 fun s r=>q1g fun r=>ih _ _ _))
  | aM zs=>
   unfold pF;cases l with
   | nil=>exact le_refl _
   | cons t r=>exact q15 (le_refl _) (q1n (ih _ _ _) fun xs r=>ih _ _ _)
  | stmt=>
   unfold pF;cases l with
   | nil=>exact le_refl _
   | cons t r=>
    exact q15 (le_refl _) (q15 (le_refl _) (q15 (q28 fun s r=>q1g fun r=>ih _ _ _) (q15 (q28 fun s r=>q1g fun r=>ih _ _ _)
     (q15 (q28 fun s r=>q1g fun r=>q4U (fun ps r=>q1g fun r=>q1g fun r=>ih _ _ _) _ _) (ih _ _ _)))))
  | stmts xs=>
   unfold pF;cases l with
   | nil=>exact le_refl _
   | cons t r=>exact q15 (le_refl _) (q1n (ih _ _ _) fun ys r=>ih _ _ _)
theorem pF_one{num:Bs->Nat×Nat}{f g:Nat}{nt:NT}{d:Nat}{l:List Tk}{o o':Out}(h:pF num f nt d l=some o)(h':pF num g nt d l=some o'):o=o':=by
 have h1:=q3o num f (max f g) (Nat.le_max_left _ _) nt d l o h;have h2:=q3o num g (max f g) (Nat.le_max_right _ _) nt d l o' h';rw [h1] at h2;exact Option.some.inj h2
def Et(l:List Tk):Prop:=∃ u e,l=u ++ [e]/\e.k = 0/\∀ t∈u,t.k≠0
theorem q1U:¬ Et []:=fun ⟨u,e,h,_⟩=>by cases u <;> cases h
theorem q0h{t:Tk}{r:List Tk}(h:Et (t :: r))(ht:t.k≠0):Et r:=by
 obtain ⟨u,e,h1,h2,h3⟩:=h;cases u with
 | nil=>simp only [List.nil_append,List.cons.injEq] at h1;rw [h1.1] at ht;exact absurd h2 ht
 | cons x u=>simp only [List.cons_append,List.cons.injEq] at h1;exact ⟨u,e,h1.2,h2,fun t ht=>h3 t (List.mem_cons_of_mem _ ht)⟩
def Gd(l:List Tk):OO->Prop
 | none=>True
 | some (.ok _ r)=>Et r/\r <:+ l
 | some (.bad a e)=>(∃ t∈l,a=t.at_)/\(e = 100\/e = 150)
theorem q5v{l l':List Tk}{o:OO}(h:Gd l o)(hl:l <:+ l'):Gd l' o:=by
 rcases o with _ | ⟨xs,r⟩ | ⟨a,e⟩
 ·trivial
 ·exact ⟨h.1,h.2.trans hl⟩
 ·obtain ⟨⟨t,ht,ha⟩,he⟩:=h;exact ⟨⟨t,hl.subset ht,ha⟩,he⟩
theorem q1h{l:List Tk}(h:Et l){e:Nat}(he:e = 100\/e = 150):Gd l (wrong l e):=by
 cases l with
 | nil=>exact absurd h q1U
 | cons t r=>exact ⟨⟨t,List.mem_cons_self ..,rfl⟩,he⟩
theorem q29{l r:List Tk}(xs:List Tr)(h:Et r)(hl:r <:+ l):Gd l (some (.ok xs r)):=⟨h,hl⟩
theorem q0R{l:List Tk}{c:Prop}[Decidable c]{o p:OO}(h1:c->Gd l o)(h2:¬ c->Gd l p):Gd l (if c then o else p):=by
 by_cases h:c
 ·rw [if_pos h];exact h1 h
 ·rw [if_neg h];exact h2 h
theorem q17{l:List Tk}{o:OO}{f:List Tr->List Tk->OO}(h:Gd l o)(hf:∀ xs r,Et r->r <:+ l->Gd r (f xs r)):Gd l (bnd o f):=by
 rcases o with _ | ⟨xs,r⟩ | ⟨a,e⟩
 ·trivial
 ·exact q5v (hf xs r h.1 h.2) h.2
 ·exact h
theorem q0z{b:Bs}{l:List Tk}{f:List Tk->OO}(h:Et l)(hf:∀ r,Et r->Gd r (f r)):Gd l (must b l f):=by
 cases l with
 | nil=>exact absurd h q1U
 | cons t r=>
  refine q0R (fun hb=>q5v (hf r (q0h h ?_)) (List.suffix_cons t r)) fun _=>q1h h (.inl rfl)
  unfold ak at hb;simp only [Bool.and_eq_true,decide_eq_true_eq] at hb;omega
theorem q2a{l:List Tk}{f:Bs->List Tk->OO}(h:Et l)(hf:∀ s r,Et r->Gd r (f s r)):Gd l (bE l f):=by
 cases l with
 | nil=>exact absurd h q1U
 | cons t r=>exact q0R (fun hb=>q5v (hf t.s r (q0h h V0)) (List.suffix_cons t r)) fun _=>q1h h (.inl rfl)
theorem q1o{b:Bs}{t:Tk}(h:ak b t=true):t.k≠0:=by
 unfold ak at h;simp only [Bool.and_eq_true,decide_eq_true_eq] at h;omega
theorem q2s{f:List Bs->List Tk->OO}(hf:∀ ps r,Et r->Gd r (f ps r)):∀ (ps:List Bs) (l:List Tk),Et l->Gd l (aC ps l f)
 | _,[],h=>absurd h q1U
 | ps,[t],h=>by
  unfold aC;exact q0R (fun hb=>absurd (q0h h V0) q1U) fun _=>q1h h (.inl rfl)
 | ps,t :: u :: r,h=>by
  unfold aC;refine q0R (fun hb=>?_) fun _=>q1h h (.inl rfl)
  have h2:=q0h h V0;exact q0R (fun hu=>q5v (q2s hf _ r (q0h h2 (q1o hu))) ((List.suffix_cons u r).trans (List.suffix_cons t _))) fun _=>q5v (hf _ _ h2) (List.suffix_cons t _)
theorem on_k{n:Nat}{t:Tk}(h:onS n t=true):t.k≠0:=by
 unfold onS at h;simp only [Bool.and_eq_true,beq_iff_eq] at h;omega
theorem pF_good(num:Bs->Nat×Nat):∀ (f:Nat) (nt:NT) (d:Nat) (l:List Tk),Et l->Gd l (pF num f nt d l):=by
 intro f
 induction f with
 | zero=>intros;trivial
 | succ f ih=>
  intro nt d l h;have one:∀ {t:Tk} {r:List Tk} {o:OO},Gd r o->Gd (t :: r) o:=fun {t r o} hg=>q5v hg (List.suffix_cons t r)
  cases l with
  | nil=>exact absurd h q1U
  | cons t r=>
  cases nt with
  | aI n=>
   unfold pF;refine q0R (fun _=>q17 (ih _ _ _ h) fun xs r hr _=>ih _ _ _ hr) fun _=>?_
   refine q0R (fun _=>q1h h (.inr rfl)) fun _=>q0R (fun hs=>?_) fun _=>q0R (fun hk=>?_) fun _=>q0R (fun hs=>?_) fun _=>q2a h fun s r hr=>?_
   ·have hr:Et r:=q0h h (by
     rcases Bool.or_eq_true_iff.1 hs with hs | hs <;> exact q1o hs)
    exact one (q17 (ih _ _ _ hr) fun xs r' hr' _=>q29 _ hr' (List.suffix_refl _))
   ·refine q0R (fun _=>q29 _ (q0h h V0) (List.suffix_cons t r)) fun _=>q1h h ?_
    by_cases h4:(num t.s).2 = 4
    ·rw [if_pos h4];exact .inl rfl
    ·rw [if_neg h4];exact .inr rfl
   ·exact one (q17 (ih _ _ _ (q0h h (q1o hs))) fun xs r' hr' _=>q0z hr' fun r2 hr2=>q29 _ hr2 (List.suffix_refl _))
   ·cases r with
    | nil=>exact absurd hr q1U
    | cons u r'=>
     refine q0R (fun hu=>?_) fun _=>q29 _ hr (List.suffix_refl _)
     exact one (q17 (ih _ _ _ (q0h hr (q1o hu))) fun xs r2 hr2 _=>q17 (ih _ _ _ hr2) fun ys r3 hr3 _=>q0z hr3 fun r4 hr4=>q29 _ hr4 (List.suffix_refl _))
  | more n x=>
   unfold pF;exact q0R (fun hs=>one (q17 (ih _ _ _ (q0h h (on_k hs))) fun ys r' hr' _=>ih _ _ _ hr')) fun _=>q29 _ h (List.suffix_refl _)
  | args xs=>
   unfold pF;exact q0R (fun hs=>one (q17 (ih _ _ _ (q0h h (q1o hs))) fun ys r' hr' _=>ih _ _ _ hr')) fun _=>q29 _ h (List.suffix_refl _)
  | fin k a s ps=>
   unfold pF;exact q17 (ih _ _ _ h) fun xs r hr _=>q0z hr fun r' hr'=>q29 _ hr' (List.suffix_refl _)
  | inner=>
   unfold pF;exact q0R (fun _=>q1h h (.inr rfl)) fun _=>q0R (fun hs=>one (q2a (q0h h (q1o hs)) fun s r hr=>q0z hr fun r hr=>q17 (ih _ _ _ hr) fun xs r hr _=>q0z hr fun r hr=>q17 (ih _ _ _ hr) fun ys r hr _=>q0z hr fun r hr=>q17 (ih _ _ _ hr) fun zs r hr _=>q29 _ hr (List.suffix_refl _)))
    fun _=>q2a h fun s r hr=>q0z hr fun r hr=>ih _ _ _ hr
  | aM zs=>
   unfold pF;exact q0R (fun hs=>q29 _ (q0h h (q1o hs)) (List.suffix_cons t r)) fun _=>q17 (ih _ _ _ h) fun xs r hr _=>ih _ _ _ hr
  | stmt=>
   unfold pF;refine q0R (fun hs=>one (q2s (fun ps r hr=>?_) _ _ (q0h h (q1o hs)))) fun _=>q0R (fun hs=>one (q2s (fun ps r hr=>?_) _ _ (q0h h (q1o hs)))) fun _=>q0R (fun hs=>one (q2a (q0h h (q1o hs)) fun s r hr=>?_)) fun _=>
    q0R (fun hs=>one (q2a (q0h h (q1o hs)) fun s r hr=>?_)) fun _=>q0R (fun hs=>one (q2a (q0h h (q1o hs)) fun s r hr=>?_)) fun _=>ih _ _ _ h
   ·exact q0z hr fun r hr=>q29 _ hr (List.suffix_refl _)
   ·exact q0z hr fun r hr=>q29 _ hr (List.suffix_refl _)
   ·exact q0z hr fun r hr=>ih _ _ _ hr
   ·exact q0z hr fun r hr=>ih _ _ _ hr
   ·refine q0z hr fun r hr=>q2s (fun ps r hr=>?_) _ _ hr
    exact q0z hr fun r hr=>q0z hr fun r hr=>ih _ _ _ hr
  | stmts xs=>
   unfold pF;exact q0R (fun _=>q29 _ h (List.suffix_refl _)) fun _=>q17 (ih _ _ _ h) fun ys r hr _=>ih _ _ _ hr
def Lo(S:Prop)(e:Tk)(l2:List Tk)(o o':OO):Prop:=∀ ys v,o=some (.ok ys (v ++ [e]))->(S->v≠[])->o'=some (.ok ys (v ++ l2))
section
variable {e : Tk} {l2 : List Tk}
end
def NT.looks:NT->Prop
 | .aI _=>True
 | .more _ _=>True
 | .args _=>True
 | _=>False
def pre(a:List Tr):Out->Out
 | .ok l r=>.ok (a ++ l) r
 | .bad p e=>.bad p e
theorem q4V{s:Bs}(h:(af s).er = 0):Et (af s).l:=by
 obtain ⟨hne,ho⟩:=q1M s h;refine ⟨(af s).l.dropLast,(af s).l.getLast hne,(List.dropLast_concat_getLast hne).symm,?_,fun t ht=>?_⟩
 ·have hl:=List.length_pos_iff.2 hne;have hx:(af s).l[(af s).l.length - 1]?=some ((af s).l.getLast hne):=by
   rw [List.getLast_eq_getElem,List.getElem?_eq_getElem V0]
  exact ((ho _ _ hx).2.2.1).2 V0
 ·obtain ⟨j,hj,hjt⟩:=List.getElem_of_mem ht;rw [List.length_dropLast] at hj;rw [List.getElem_dropLast] at hjt;have hx:(af s).l[j]?=some t:=by rw [List.getElem?_eq_getElem V0,hjt]
  intro hk;have:=((ho j t hx).2.2.1).1 hk;omega
theorem tells{num:Bs->Nat×Nat}{s:Bs}(h:(af s).er = 0){f d a e:Nat}{nt:NT}(hp:pF num f nt d (af s).l=some (.bad a e)):a<=s.length/\(e = 100\/e = 150):=by
 have hg:=pF_good num f nt d _ (q4V h);rw [hp] at hg;obtain ⟨⟨t,ht,rfl⟩,he⟩:=hg;obtain ⟨j,hj,hjt⟩:=List.getElem_of_mem ht;have:=((q1M s h).2 j t (by rw [List.getElem?_eq_getElem hj,hjt])).1;exact ⟨V0,he⟩
def Okt(t:Tk):Prop:=(t.k = 0/\t.s=[])\/(t.k = 1/\aA t.s=false/\∃ c r,t.s=c :: r/\dx c=true)\/(t.k = 2/\∃ c r,t.s=c :: r/\dx c=false/\numB c=true)\/(t.k = 3/\aA t.s=true) \/
 (t.k = 4/\(t.s=[60,60,60]\/t.s∈dz\/∃ c,c∈signs1/\t.s=[c]))
theorem tok_okt{c:UInt8}{r:Bs}{k m:Nat}(h:aW c r=some (k,m))(i:Nat):Okt ⟨k,(c :: r).take m,i⟩:=by
 unfold aW at h;split at h
 ·rename_i hl;split at h
  ·rename_i hw;cases h;exact .inr (.inr (.inr (.inl ⟨rfl,by show aA (c :: r.take _)=true;exact hw⟩)))
  ·rename_i hw;split at h
   ·cases h
   ·cases h;exact .inr (.inl ⟨rfl,by show aA (c :: r.take _)=false;simpa using hw,c,_,rfl,hl⟩)
 ·rename_i hl;split at h
  ·rename_i hn;cases h;exact .inr (.inr (.inl ⟨rfl,c,_,rfl,by simpa using hl,hn⟩))
  ·split at h
   ·rename_i h3;cases h;exact .inr (.inr (.inr (.inr ⟨rfl,.inl h3⟩)))
   ·split at h
    ·rename_i h3;cases h;exact .inr (.inr (.inr (.inr ⟨rfl,.inr (.inl h3)⟩)))
    ·split at h
     ·rename_i h3;cases h;exact .inr (.inr (.inr (.inr ⟨rfl,.inr (.inr ⟨c,h3,rfl⟩)⟩)))
     ·cases h
theorem q5Q:∀ (f:Nat) (bs:Bs) (i n:Nat),∀ t∈(goL f bs i n).l,Okt t
 | 0,_,_,_,t,ht=>by cases ht
 | f+1,[],i,n,t,ht=>by
  have e:goL (f+1) [] i n=if n = 4000 then ⟨[],i,150⟩ else ⟨[⟨0,[],i⟩],0,0⟩:=rfl
  rw [e] at ht;split at ht
  ·cases ht
  ·cases ht with
   | head=>exact .inl ⟨rfl,rfl⟩
   | tail _ h=>cases h
 | f+1,c :: r,i,n,t,ht=>by
  rcases hk:aW c r with _ | ⟨k,m⟩
  ·rw [q3g hk] at ht;cases ht
  ·rw [q1Q hk] at ht;split at ht
   ·cases ht
   ·unfold Wd.cons at ht;split at ht
    ·cases ht with
     | head=>exact tok_okt hk i
     | tail _ h=>exact q5Q f _ _ _ t h
    ·exact q5Q f _ _ _ t ht
theorem q5R(s:Bs):∀ t∈(af s).l,Okt t:=by
 unfold af;split
 ·intro t ht;cases ht
 ·exact q5Q _ _ _ _
def litB(b:Bs):Bool:=match b with
 | []=>false
 | c :: _=>!numB c && (aA b || !dx c)
theorem q0A{t:Tk}(h:Okt t)(hb:litB t.s=true):2 < t.k:=by
 rcases h with ⟨_,h⟩ | ⟨_,hw,c,r,h,hl⟩ | ⟨_,c,r,h,hl,hn⟩ | ⟨h,_⟩ | ⟨h,_⟩
 ·rw [h] at hb;cases hb
 ·rw [h] at hb hw;simp only [litB,hw,hl,Bool.not_true,Bool.or_false,Bool.and_false] at hb;cases hb
 ·rw [h] at hb;simp only [litB,hn,Bool.not_true,Bool.false_and] at hb;cases hb
 ·omega
 ·omega
theorem q0q{t:Tk}(h:Okt t){b:Bs}(hb:litB b=true):ak b t=(t.s==b):=by
 unfold ak;by_cases e:t.s=b
 ·subst e;have:=q0A h hb;simp [this]
 ·have:(t.s==b)=false:=by simpa using e
  rw [this,Bool.and_false]
def levT(s:Bs):Nat:=if s=[124] then 1 else if s=[94] then 2 else if s=[38] then 3 else if s=[60,60]\/s=[62,62]\/s=[60,60,60] then 4 else if s=[43]\/s=[45] then 5 else 0
def kindT(s:Bs):Nat:=if levT s = 0 then 0 else if levT s = 4 then 4 else 3
theorem levT_le(s:Bs):levT s<=5:=by
 unfold levT;repeat' split
 all_goals omega
theorem q5S{t:Tk}(h:Okt t)(hl:levT t.s≠0):t.k = 4:=by
 have h0:t.s=[124]\/t.s=[94]\/t.s=[38]\/t.s=[60,60]\/t.s=[62,62]\/t.s=[60,60,60]\/t.s=[43]\/t.s=[45]:=by
  unfold levT at hl;by_cases h1:t.s=[124]
  ·exact .inl h1
  rw [if_neg h1] at hl;by_cases h2:t.s=[94]
  ·exact .inr (.inl h2)
  rw [if_neg h2] at hl;by_cases h3:t.s=[38]
  ·exact .inr (.inr (.inl h3))
  rw [if_neg h3] at hl;by_cases h4:t.s=[60,60]\/t.s=[62,62]\/t.s=[60,60,60]
  ·rcases h4 with h4 | h4 | h4
   ·exact .inr (.inr (.inr (.inl h4)))
   ·exact .inr (.inr (.inr (.inr (.inl h4))))
   ·exact .inr (.inr (.inr (.inr (.inr (.inl h4)))))
  rw [if_neg h4] at hl;by_cases h5:t.s=[43]\/t.s=[45]
  ·rcases h5 with h5 | h5
   ·exact .inr (.inr (.inr (.inr (.inr (.inr (.inl h5))))))
   ·exact .inr (.inr (.inr (.inr (.inr (.inr (.inr h5))))))
  rw [if_neg h5] at hl;exact absurd rfl hl
 have hb:litB t.s=true/\aA t.s=false:=by
  rcases h0 with h | h | h | h | h | h | h | h <;> rw [h] <;> decide
 have h2:=q0A h hb.1;rcases h with ⟨h,_⟩ | ⟨h,_⟩ | ⟨h,_⟩ | ⟨_,h⟩ | ⟨h,_⟩
 ·omega
 ·omega
 ·omega
 ·rw [hb.2] at h;cases h
 ·exact h
theorem q5T{t:Tk}(h:Okt t){q:Nat}(hq:q < 5):onS q t=decide (levT t.s=q+1):=by
 unfold onS;have hc:(sOf q).contains t.s=decide (levT t.s=q+1):=by
  generalize t.s=s;obtain rfl | rfl | rfl | rfl | rfl:q = 0\/q = 1\/q = 2\/q = 3\/q = 4:=V0
  all_goals
   by_cases h0:s=[124]
   ·subst h0;decide
   by_cases h1:s=[94]
   ·subst h1;decide
   by_cases h2:s=[38]
   ·subst h2;decide
   by_cases h3:s=[60,60]
   ·subst h3;decide
   by_cases h4:s=[62,62]
   ·subst h4;decide
   by_cases h5:s=[60,60,60]
   ·subst h5;decide
   by_cases h6:s=[43]
   ·subst h6;decide
   by_cases h7:s=[45]
   ·subst h7;decide
   simp [levT,sOf,h0,h1,h2,h3,h4,h5,h6,h7]
 rw [hc];by_cases he:levT t.s=q+1
 ·have:=q5S h V0;simp [he,this]
 ·simp [he]
end Pa
namespace Pa
open Go Go.ChangeShapes Go.WideShapes Go.ChangeAt Go.RowKit Lx Args
structure Gt(l:List Tk):Prop where
 et:Et l
 ok:∀ t∈l,Okt t/\t.s.length<=20000
 few:l.length<=4000
theorem Gt.cons{l:List Tk}(h:Gt l):∃ t r,l=t :: r:=by
 cases l with
 | nil=>exact absurd h.et q1U
 | cons t r=>exact ⟨t,r,rfl⟩
theorem Gt.tail{t:Tk}{r:List Tk}(h:Gt (t :: r))(ht:t.k≠0):Gt r:=
 ⟨q0h h.et ht,fun u hu=>h.ok u (List.mem_cons_of_mem _ hu),by have:=h.few;simp at this;omega⟩
theorem Gt.suf{l r:List Tk}(h:Gt l)(he:Et r)(hs:r <:+ l):Gt r:=
 ⟨he,fun u hu=>h.ok u (hs.subset hu),Nat.le_trans hs.length_le h.few⟩
theorem Gt.hd{t:Tk}{r:List Tk}(h:Gt (t :: r)):Okt t:=(h.ok t (List.mem_cons_self ..)).1
structure PS(w:World)(bp:Nat)(l:List Tk)(d:Nat):Prop where
 ex:∃ b o c,b < bp/\Aa w bp 162 #[.slice (some ⟨b,o,none⟩) l.length c,.int .i64 (d:Int)]/\Af w (some ⟨b,o,none⟩) (l.flatMap tkC)/\l.length<=c/\c<=maxLen
abbrev UB(bp:Nat)(w w':World):Prop:=Upd (fun b=>b=bp) w w'
theorem PS.lt{w:World}{bp:Nat}{l:List Tk}{d:Nat}(h:PS w bp l d):bp < w.heap.size:=by
 obtain ⟨b,o,c,_,hb,_⟩:=h;exact hb.lt
theorem Aa.c2{w:World}{g:Nat}{t:TypeId}{a b:Value}(h:Aa w g t #[a,b]):w.cell? ⟨g,0,none⟩=some a/\w.cell? ⟨g,1,none⟩=some b/\w.frozen? ⟨g,0,none⟩=false/\w.frozen? ⟨g,1,none⟩=false:=⟨h.cell 0,h.cell 1,h.frozen 0,h.frozen 1⟩
theorem Aa.c3{w:World}{g:Nat}{t:TypeId}{a b c:Value}(h:Aa w g t #[a,b,c]):w.cell? ⟨g,0,none⟩=some a/\w.cell? ⟨g,1,none⟩=some b/\w.cell? ⟨g,2,none⟩=some c/\w.frozen? ⟨g,0,none⟩=false/\w.frozen? ⟨g,1,none⟩=false/\w.frozen? ⟨g,2,none⟩=false:=
 ⟨h.cell 0,h.cell 1,h.cell 2,h.frozen 0,h.frozen 1,h.frozen 2⟩
theorem Aa.c6{w:World}{g:Nat}{t:TypeId}{a b c d e f:Value}(h:Aa w g t #[a,b,c,d,e,f]):(w.cell? ⟨g,0,none⟩=some a/\w.cell? ⟨g,1,none⟩=some b/\w.cell? ⟨g,2,none⟩=some c/\w.cell? ⟨g,3,none⟩=some d/\w.cell? ⟨g,4,none⟩=some e/\w.cell? ⟨g,5,none⟩=some f) /\
  w.frozen? ⟨g,0,none⟩=false/\w.frozen? ⟨g,1,none⟩=false/\w.frozen? ⟨g,2,none⟩=false/\w.frozen? ⟨g,3,none⟩=false/\w.frozen? ⟨g,4,none⟩=false/\w.frozen? ⟨g,5,none⟩=false:=
 ⟨⟨h.cell 0,h.cell 1,h.cell 2,h.cell 3,h.cell 4,h.cell 5⟩,h.frozen 0,h.frozen 1,h.frozen 2,h.frozen 3,h.frozen 4,h.frozen 5⟩
theorem PS.below{w w':World}{bp:Nat}{l:List Tk}{d:Nat}(h:PS w bp l d)(hb:Below w.heap.size w w'):PS w' bp l d:=by
 obtain ⟨b,o,c,hn,h1,h2,h3⟩:=h;exact ⟨b,o,c,hn,h1.below hb h1.lt,h2.below hb,h3⟩
theorem PS.far{X:Nat->Prop}{w w':World}{bp:Nat}{l:List Tk}{d:Nat}(h:PS w bp l d)(hu:Upd X w w')(hX:∀ b,X b->bp < b):PS w' bp l d:=by
 obtain ⟨b,o,c,hn,h1,h2,h3⟩:=h;exact ⟨b,o,c,hn,h1.upd hu fun hx=>by have:=hX bp hx;omega,hu.lies h2 fun b' o' e _ hx=>by cases e;have:=hX _ hx;omega,h3⟩
theorem q3V(t:Tk)(r:List Tk):(t :: r).flatMap tkC = .int .i64 (t.k:Int) :: .string ⟨t.s.toArray⟩ :: .int .i64 (t.at_:Int) :: r.flatMap tkC:=rfl
theorem PS.head{w:World}{bp:Nat}{t:Tk}{r:List Tk}{d:Nat}(h:PS w bp (t :: r) d):∃ b o c,b < bp/\r.length+1<=c/\c<=maxLen/\w.cell? ⟨bp,0,none⟩=some (.slice (some ⟨b,o,none⟩) (r.length+1) c)/\w.cell? ⟨bp,1,none⟩=some (.int .i64 (d:Int)) /\
  w.frozen? ⟨bp,0,none⟩=false/\w.frozen? ⟨bp,1,none⟩=false /\
  w.cell? ⟨b,o,none⟩=some (.int .i64 (t.k:Int))/\w.cell? ⟨b,o+1,none⟩=some (.string ⟨t.s.toArray⟩)/\w.cell? ⟨b,o+2,none⟩=some (.int .i64 (t.at_:Int)):=by
 obtain ⟨b,o,c,hn,h1,h2,h3,h4⟩:=h;rw [q3V] at h2;have f0:=h2 0 _ rfl;have f1:=h2 1 _ rfl;have f2:=h2 2 _ rfl;obtain ⟨a0,e0,f0⟩:=f0;obtain ⟨a1,e1,f1⟩:=f1;obtain ⟨a2,e2,f2⟩:=f2;cases e0;cases e1;cases e2;rw [Args.add_plain] at f0 f1 f2;exact ⟨b,o,c,hn,h3,h4,h1.cell 0,h1.cell 1,h1.frozen 0,h1.frozen 1,f0,f1,f2⟩
theorem PS.take{w:World}{bp:Nat}{t:Tk}{r:List Tk}{d b o c:Nat}(h:PS w bp (t :: r) d)(hc:w.cell? ⟨bp,0,none⟩=some (.slice (some ⟨b,o,none⟩) (r.length+1) c)) :
  PS (w.setCell ⟨bp,0,none⟩ (.slice (some ⟨b,o+3,none⟩) r.length (c - 1))) bp r d:=by
 obtain ⟨b',o',c',hn,h1,h2,h3,h4⟩:=h;have e:=h1.cell 0;rw [hc] at e;simp at e;obtain ⟨⟨rfl,rfl⟩,rfl⟩:=e;simp only [List.length_cons] at h3;refine ⟨b,o+3,c - 1,hn,?_,?_,V0,V0⟩
 ·exact h1.set 0 _
 ·intro j u hj;refine ⟨_,rfl,?_⟩;rw [Args.add_plain];have h5:=h2 (j+3) u (by rw [q3V];simpa using hj);obtain ⟨a,ea,h5⟩:=h5;cases ea;rw [Args.add_plain] at h5;rw [show o+3+j=o+(j+3) from V0,<-h5];exact World.cell?_of_block (a:=⟨b,o+(j+3),none⟩) (Below.heap_setCell w _ _ b (Nat.ne_of_lt hn))
theorem PS.deep{w:World}{bp:Nat}{l:List Tk}{d:Nat}(h:PS w bp l d)(d':Nat):PS (w.setCell ⟨bp,1,none⟩ (.int .i64 (d':Int))) bp l d':=by
 obtain ⟨b,o,c,hn,h1,h2,h3⟩:=h;refine ⟨b,o,c,hn,h1.set 1 _,?_,h3⟩;intro j u hj;obtain ⟨a,ea,h5⟩:=h2 j u hj;cases ea;refine ⟨_,rfl,?_⟩;rw [Args.add_plain] at h5 ⊢;rw [<-h5];exact World.cell?_of_block (a:=⟨b,o+j,none⟩) (Below.heap_setCell w _ _ b (Nat.ne_of_lt hn))
end Pa
end Go.Proofs.YtcgibpdjfgjldaaGreatDoor
