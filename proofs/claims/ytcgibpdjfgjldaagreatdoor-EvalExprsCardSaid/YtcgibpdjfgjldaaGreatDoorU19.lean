/- DERIVED. NmRef, FlOp, FlOpen. By an AI agent. -/
import Derived.Test.YtcgibpdjfgjldaaGreatDoorU10
import Derived.Deep.CutBlock
set_option linter.unusedVariables false
set_option linter.unusedSimpArgs false
namespace Go.Proofs.YtcgibpdjfgjldaaGreatDoor
namespace Nm
open Lx Pa Sh
structure RS where
 inn:List Bs
 var:List Bs
 loo:List Bs
 fn:List Bs
 many:List Nat
 bad:Option Int
 se:List Bs
 pu:List Bs
 ou:List (Bs×Bool)
def manyR:List Bs->List Nat->Bs->Int
 | f :: fs,m :: ms,s=>if f==s then (m:Int) else manyR fs ms s
 | _,_,_=>-1
def wordR(d:RS)(s:Bs):Bool:=d.inn.contains s || d.var.contains s || d.loo.contains s
def callR(fn:List Bs)(many:List Nat)(s:Bs)(p:Nat):Bool:=decide (manyR fn many s=(p:Int)) && fn.contains s
def nmR(d:RS)(s:Bs):Bool:=d.inn.contains s || d.var.contains s || d.loo.contains s || d.fn.contains s
/-! Both alike. -/
structure Rl(c:St)(d:RS):Prop where
 good:d.bad=none
 inn:∀ s,s∈d.inn↔∃ p,c.kn s=some (0,p)
 fn:∀ s,s∈d.fn↔∃ p,c.kn s=some (1,p)
 var:∀ s,s∈d.var↔∃ p,c.kn s=some (2,p)
 loo:∀ s,s∈d.loo↔∃ p,c.kn s=some (3,p)
 many:∀ s p,c.kn s=some (1,p)->manyR d.fn d.many s=(p:Int)
 len:d.many.length=d.fn.length
 sorts:Sorts c.kn
 se:d.se=c.se
 pu:d.pu=c.pu
 ou:d.ou=c.ou
theorem q0H{a b:Bool}(h:a=true↔b=true):a=b:=by cases a <;> cases b <;> simp_all
theorem Rl.named{c:St}{d:RS}(h:Rl c d)(s:Bs):nmR d s=namedB c.kn s:=by
 refine q0H ?_;unfold nmR namedB;simp only [Bool.or_eq_true,List.contains_iff_mem,h.inn,h.var,h.loo,h.fn,Option.isSome_iff_exists];constructor
 ·rintro (((⟨p,h⟩ | ⟨p,h⟩) | ⟨p,h⟩) | ⟨p,h⟩) <;> exact ⟨_,h⟩
 ·rintro ⟨⟨m,p⟩,hk⟩;have hm:=h.sorts s _ hk;simp only at hm;rcases m with _ | _ | _ | _ | m
  ·exact .inl (.inl (.inl ⟨p,hk⟩))
  ·exact .inr ⟨p,hk⟩
  ·exact .inl (.inl (.inr ⟨p,hk⟩))
  ·exact .inl (.inr ⟨p,hk⟩)
  ·omega
theorem Rl.word{c:St}{d:RS}(h:Rl c d)(s:Bs):wordR d s=wordB c.kn s:=by
 refine q0H ?_;unfold wordR wordB;simp only [Bool.or_eq_true,List.contains_iff_mem,h.inn,h.var,h.loo];cases hk:c.kn s with
 | none=>simp
 | some m=>
  obtain ⟨m,p⟩:=m;have hm:=h.sorts s _ hk;simp only at hm;rcases m with _ | _ | _ | _ | m
  ·simp
  ·simp
  ·simp
  ·simp
  ·omega
theorem Rl.func{c:St}{d:RS}(h:Rl c d)(s:Bs):d.fn.contains s=isB c.kn s [1]:=by
 refine q0H ?_;unfold isB;rw [List.contains_iff_mem,h.fn];cases hk:c.kn s with
 | none=>simp
 | some m=>obtain ⟨m,p⟩:=m;simp
theorem Rl.call{c:St}{d:RS}(h:Rl c d)(s:Bs)(p:Nat):callR d.fn d.many s p=callB c.kn s p:=by
 unfold callR callB;cases hk:c.kn s with
 | none=>
  have:d.fn.contains s=false:=by rw [h.func];unfold isB;rw [hk]
  rw [this];simp
 | some m=>
  obtain ⟨m,q⟩:=m;by_cases hm:m = 1
  ·subst hm;have h1:d.fn.contains s=true:=by rw [h.func];unfold isB;rw [hk];simp
   rw [h1,h.many s q hk];refine q0H ?_;simp only [Bool.and_true,decide_eq_true_eq,decide_true,Bool.true_and];omega
  ·have h1:d.fn.contains s=false:=by rw [h.func];unfold isB;rw [hk];simp;omega
   rw [h1];simp [hm]
def Both(r:Rs)(d:RS):Prop:=match r with | .bad a=>d.bad=some a | .ok c=>Rl c d
mutual
def okP:Tz->Prop
 | .mk k _ _ _ _ l=>(k = 8\/k = 9\/k = 10\/k = 12->l.length<=1)/\(k = 11->okPs 2 l)
def okPs:Nat->List Tz->Prop
 | _,[]=>True
 | 0,x :: l=>okP x/\okPs 0 l
 | i+1,_ :: l=>okPs i l
end
theorem take_all{α:Type}{l:List α}{n:Nat}(h:l.length<=n):l.take n=l:=List.take_of_length_le h
mutual
theorem q8K{Q:Bs->Prop}:∀ {x:Tr},gS Q x->okP (embz x)
 | .mk k a s n ps l,h=>by
  unfold gS at h;unfold embz okP;rw [q2s];obtain ⟨_,_,_,⟨h1,h2,_⟩ | ⟨h1,h2,h3⟩⟩:=h
  ·subst h1;exact ⟨fun _=>V0,fun h=>Vc⟩
  ·subst h1;exact ⟨fun h=>Vc,fun _=>q6I h3⟩
theorem q6I{Q:Bs->Prop}:∀ {i:Nat} {l:List Tr},gA Q i l->okPs i (embs l)
 | _,[],_=>by unfold embs okPs;trivial
 | 0,x :: l,h=>by unfold gA at h;unfold embs okPs;exact ⟨q8K h.1,q6I h.2⟩
 | i+1,x :: l,h=>by unfold gA at h;unfold embs okPs;exact q6I h.2
end
theorem okP_gT{Q:Bs->Prop}{x:Tr}(h:gT Q x):okP (embz x):=by
 obtain ⟨k,a,s,n,ps,l⟩:=x;unfold gT at h;rcases h with h | ⟨_,⟨h1,_,h2,_⟩ | ⟨h1,_,_,y,rfl,_⟩ | ⟨h1,_,_,_,y,rfl,_⟩⟩
 ·exact q8K h
 ·unfold embz okP;exact ⟨fun _=>by rw [h2];simp [embs],fun h=>V0⟩
 ·unfold embz okP;exact ⟨fun _=>by simp [embs],fun h=>V0⟩
 ·unfold embz okP;exact ⟨fun _=>by simp [embs],fun h=>V0⟩
theorem q6J{Q:Bs->Prop}:∀ {l:List Tr},(∀ y∈l,gT Q y)->okPs 0 (embs l)
 | [],_=>by unfold embs okPs;trivial
 | x :: l,h=>by unfold embs okPs;exact ⟨okP_gT (h x V3),q6J fun y hy=>h y (by simp [hy])⟩
end Nm
namespace Fl
open Lx Pa Sh Go.Proofs.YtcgibpdjfgjldaaGreatDoor.Nm
def opT:Tz->Tz
 | .mk k a s n ps l=>.mk (if k = 6 then 7 else k) a s n ps l
/-! Names of both. -/
def SmC(c d:St):Prop:=c.kn=d.kn/\c.en=d.en/\c.ou=d.ou
def SmS:Rs->Rs->Prop
 | .bad a,.bad b=>a=b
 | .ok c,.ok d=>SmC c d
 | _,_=>False
theorem SmS.bnd{r1 r2:Rs}{f1 f2:St->Rs}(h:SmS r1 r2)(hf:∀ c d,SmC c d->SmS (f1 c) (f2 d)):SmS (bndR r1 f1) (bndR r2 f2):=by
 cases r1 <;> cases r2
 ·exact hf _ _ h
 ·exact h.elim
 ·exact h.elim
 ·exact h
end Fl
end Go.Proofs.YtcgibpdjfgjldaaGreatDoor
namespace Go.Proofs.YtcgibpdjfgjldaaGreatDoor.HT
open Go
variable {P : Program} {ops : Array Oper} {Q : Exit -> Act -> World -> Prop} {md : Region.Mode} {Z S : World -> Prop} {st : List Nat}
theorem two{i j:Nat}{oi oj:Oper}{f:Nat}{listed:Array Bool}{a:Act}{w:World}(hr:Region.ready md ops listed=[i,j])(hi:ops[i]?=some oi)(hj:ops[j]?=some oj)
  (h1:∀ K:Act->World->Prop,Shut (∀ a' w',Z w'->S w'->anyT P md ops Q Z S st f (listed.setIfInBounds i true) a' w'->K a' w')->if Region.wanted oi (yielded ops a.tmps)=true then Oper.wp P oi a w K Q else K (a.put oi.dst undef) w)
  (h2:∀ K:Act->World->Prop,Shut (∀ a' w',Z w'->S w'->anyT P md ops Q Z S st f (listed.setIfInBounds j true) a' w'->K a' w')->if Region.wanted oj (yielded ops a.tmps)=true then Oper.wp P oj a w K Q else K (a.put oj.dst undef) w):anyT P md ops Q Z S st (f+1) listed a w:=
 ⟨fun h0=>V26,fun k hk=>by
  rw [hr] at hk;rcases List.mem_cons.1 hk with rfl | hk
  ·exact wpOp_step hi fun K hK=>h1 K fun a' w' hZ hS hW=>hK a' w' ⟨⟨hZ,fun _=>hS⟩,hW⟩
  ·obtain rfl:=List.mem_singleton.1 hk;exact wpOp_step hj fun K hK=>h2 K fun a' w' hZ hS hW=>hK a' w' ⟨⟨hZ,fun _=>hS⟩,hW⟩⟩
end Go.Proofs.YtcgibpdjfgjldaaGreatDoor.HT
namespace Go.Proofs.YtcgibpdjfgjldaaGreatDoor.Fl
open Go Go.ChangeShapes Go.WideShapes Go.ChangeAt Go.RowKit Lx Args Pa Sh Go.Proofs.YtcgibpdjfgjldaaGreatDoor.Nm
theorem six{q:Prop}{w:World}{z:Tz}{c:List Value}(h:TIc q w z c):c.length = 6:=by
 obtain ⟨_,_,_,_,_,_,_,_,_,_,rfl⟩:=q1X h;rfl
theorem own_blk{w:World}{lo:Nat}{e:TypeId}{size n c g:Nat}{xs:List Value}(h:w.ownsRow lo e size (.slice (some ⟨g,0,none⟩) n c) n xs):∃ cur,Blk w g e cur/\cur.size=c * size/\n<=c:=by
 rcases h.2 with ⟨h2,_⟩ | ⟨g',cap,cur,h3,h4,h5,h6,h7,h8,h9⟩
 ·cases h2
 ·cases h3;exact ⟨cur,h5,h8,h6⟩
end Go.Proofs.YtcgibpdjfgjldaaGreatDoor.Fl
