/- DERIVED. FlEq, FlMap, FlRange, FlMem, Math, Word, Walks. By an AI agent. -/
import Derived.Test.YtcgibpdjfgjldaaGreatDoorQ34
import Derived.Test.YtcgibpdjfgjldaaGreatDoorQ04
import Derived.Maps.RangeWalk
import Derived.Test.YtcgibpdjfgjldaaGreatDoorQ07
import Derived.Laws.BitsLemmas
import Derived.Laws.Bits64b
import Derived.Test.YtcgibpdjfgjldaaGreatDoorRows
import Derived.WalkKit
import Derived.RegionTactic
import Derived.ProofKit
import Derived.Deep.QuietTactic
import Derived.BigQuiet
import Derived.Outline
import Derived.Lib.Hide
import Derived.OpenShut
set_option linter.unusedVariables false
set_option linter.unusedSimpArgs false
namespace Go.Proofs.YtcgibpdjfgjldaaGreatDoor.Fl
open Lx Pa Sh Go.Proofs.YtcgibpdjfgjldaaGreatDoor.Nm
section
variable (num : Num) (M : Int) (fu : Fu)
def calR(c:Nat)(kn:Kw)(a:Int)(s:Bs)(l:List Tz)(nd:Int):Rf (Bool×Int):=
 match c with
 | 0=>.bad a 150
 | c+1=>if M < nd then .bad a 150 else bndF (seqB (exC num M fu c kn) l nd) fun q=>calB fu (exC num M fu c) s q
def shR(c:Nat)(kn:Kw)(l:List Tz)(nd:Int):Rf (Bool×Int):=
 match strBs (looB kn) ((l.drop 1).take 1) with
 | some e=>.bad e.2.1 (badB kn e)
 | none=>bndF (seqB (exC num M fu c kn) (l.take 1) nd) fun q=>.ok (q.1.any id,q.2)
end
section
variable {num : Num} {M : Int} {fu : Fu}
theorem seqB_nil(f:Tz→Int→Rf (Bool×Int))(nd:Int):seqB f [] nd = .ok ([],nd):=rfl
theorem seqB_cons(f:Tz→Int→Rf (Bool×Int))(x:Tz)(l:List Tz)(nd:Int):seqB f (x :: l) nd=bndF (f x nd) fun q=>bndF (seqB f l q.2) fun r=>.ok (q.1 :: r.1,r.2):=rfl
theorem exTs_seq{deep:Bool}{sub:Sub}{kn:Kw}:∀ (l:List Tz) (nd:Int),exTs num M fu deep sub kn l nd=seqB (exT num M fu deep sub kn) l nd
 | [],nd=>by unfold exTs;rfl
 | x :: l,nd=>by
  conv=>lhs;unfold exTs
  rw [seqB_cons]
  congr 1
  funext q
  rw [exTs_seq l q.2]
theorem bnd_assoc{α β γ:Type}(r:Rf α)(f:α→Rf β)(g:β→Rf γ):bndF (bndF r f) g=bndF r fun x=>bndF (f x) g:=by
 cases r <;> rfl
theorem seq_one(f:Tz→Int→Rf (Bool×Int))(x:Tz)(nd:Int):bndF (seqB f [x] nd) (fun q=>.ok (q.1.any id,q.2))=f x nd:=by
 rw [seqB_cons,bnd_assoc];cases f x nd with
 | bad a e=>rfl
 | ok q=>
  show Rf.ok (([q.1]:List Bool).any id,q.2)=_;simp
theorem exS_sh{deep:Bool}{sub:Sub}{kn:Kw}(l:List Tz)(nd:Int):exS num M fu deep sub kn l nd=match strBs (looB kn) ((l.drop 1).take 1) with
 | some e=>.bad e.2.1 (badB kn e)
 | none=>bndF (seqB (exT num M fu deep sub kn) (l.take 1) nd) fun q=>.ok (q.1.any id,q.2):=by
 match l with
 | []=>unfold exS;rfl
 | [x]=>
  unfold exS;show exT num M fu deep sub kn x nd=bndF (seqB (exT num M fu deep sub kn) [x] nd) fun q=>.ok (q.1.any id,q.2)
  rw [seq_one]
 | x :: y :: l=>
  unfold exS;show bndF (nuB num kn y) (fun _=>exT num M fu deep sub kn x nd)=match strBs (looB kn) [y] with
   | some e=>.bad e.2.1 (badB kn e)
   | none=>bndF (seqB (exT num M fu deep sub kn) [x] nd) fun q=>.ok (q.1.any id,q.2)
  rw [seq_one];unfold nuB;have e:strBs (looB kn) [y]=strB (looB kn) y:=by
   unfold strBs;cases strB (looB kn) y with
   | some e=>rfl
   | none=>unfold strBs;rfl
  rw [e];cases strB (looB kn) y <;> rfl
theorem exC_0:exC num M fu 0=exT num M fu true fun _ _ nd=>.ok (false,nd):=by unfold exC;rfl
theorem exC_s(c:Nat):exC num M fu (c+1)=exT num M fu false (exC num M fu c):=by conv=>lhs;unfold exC
theorem exC_mk(c:Nat)(kn:Kw)(k a:Int)(s:Bs)(n:Nat)(ps:List Bs)(l:List Tz)(nd:Int):exC num M fu c kn (.mk k a s n ps l) nd =
  if k = 5 then calR num M fu c kn a s l (nx nd) else if k = 4 then shR num M fu c kn l (nx nd)
  else bndF (seqB (exC num M fu c kn) l (nx nd)) fun q=>.ok (if k = 1 then secB kn s else if k = 2∨k = 3 then q.1.any id else false,q.2):=by
 unfold shR calR;cases c with
 | zero=>
  rw [exC_0]
  conv=>lhs;unfold exT
  rw [exS_sh,exTs_seq];simp only [or_true,if_true]
 | succ c=>
  rw [exC_s]
  conv=>lhs;unfold exT
  rw [exS_sh,exTs_seq];simp only [Bool.false_eq_true,or_false]
theorem par_take:∀ (ps:List Bs) (bs:List Bool),parB ps bs=parB (ps.take bs.length) bs
 | [],bs=>by simp
 | p :: ps,[]=>by simp [parB]
 | p :: ps,b :: bs=>by
  rw [List.length_cons,List.take_succ_cons];unfold parB;rw [par_take ps bs]
theorem par_snoc:∀ (ps:List Bs) (bs:List Bool) (p:Bs) (b:Bool),ps.length=bs.length→parB (ps ++ [p]) (bs ++ [b])=(parB ps bs).put p ⟨b,none⟩
 | [],[],p,b,_=>by
  funext t
  show (match (parB [] [] t:Option Wk) with | some m=>some m | none=>if t=p then some ⟨b,none⟩ else none)=if t=p then some ⟨b,none⟩ else parB [] [] t
  unfold parB;rfl
 | q :: ps,c :: bs,p,b,h=>by
  funext t
  have ih:=congrFun (par_snoc ps bs p b (by simpa using h)) t;show (match parB (ps ++ [p]) (bs ++ [b]) t with | some m=>some m | none=>if t=q then some ⟨c,none⟩ else none)=if t=p then some ⟨b,none⟩ else parB (q :: ps) (c :: bs) t
  rw [ih];unfold Kw.put;by_cases e:t=p
  ·rw [if_pos e,if_pos e]
  ·rw [if_neg e,if_neg e];rfl
 | [],_ :: _,_,_,h=>by simp at h
 | _ :: _,[],_,_,h=>by simp at h
end
end Go.Proofs.YtcgibpdjfgjldaaGreatDoor.Fl
namespace Go.Proofs.YtcgibpdjfgjldaaGreatDoor.Fl
open Go Go.ChangeShapes Go.WideShapes Go.ChangeAt Go.RowKit Lx Args Pa Sh Go.Proofs.YtcgibpdjfgjldaaGreatDoor.Nm
structure Cod(α:Type) where
 enc:α→Value
 dat:α→DataW Unit
 rd:Value→Option (DataW Unit×List MemPlace)
 rd_enc:∀ a,rd (enc a)=some (dat a,[])
 inv:∀ v a ps,rd v=some (dat a,ps)→v=enc a
def MpG{α:Type}(c:Cod α)(w:World)(b n:Nat)(kn:Bs→Option α):Prop:=
 ∃ D:DataW Unit,w.ownsMap Tryz.prog 9 c.rd b n D∧∀ s:Bs,s.length≤maxLen→Maps.has D (.string s)=(kn s).isSome∧∀ m,kn s=some m→∀ z,D.atKey (.string s) z=c.dat m
section
variable {α : Type} {c : Cod α} {w w' : World} {b n : Nat} {kn : Bs → Option α} {s : Bs} {T E : TypeId}
theorem MpG.lt(h:MpG c w b n kn):b < w.heap.size:=by obtain ⟨D,h1,_⟩:=h;exact h1.lt
theorem MpG.heap(h:MpG c w b n kn)(e:w'.heap[b]?=w.heap[b]?):MpG c w' b n kn:=by
 obtain ⟨D,h1,h2⟩:=h;exact ⟨D,own_heap h1 e,h2⟩
theorem MpG.upd{X:Nat→Prop}(h:MpG c w b n kn)(hu:Upd X w w')(hx:¬ X b):MpG c w' b n kn:=h.heap (hu.block b h.lt hx)
theorem MpG.mono(h:MpG c w b n kn){m:Nat}(hm:n≤m):MpG c w b m kn:=by
 obtain ⟨D,h1,h2⟩:=h;exact ⟨D,h1.mono hm,h2⟩
theorem MpG.val{z0:α}(hs:s.length≤maxLen){D:DataW Unit}(hD:∀ s:Bs,s.length≤maxLen→Maps.has D (.string s)=(kn s).isSome∧∀ m,kn s=some m→∀ z,D.atKey (.string s) z=c.dat m){v:Value}{ps:List MemPlace}
  (hv:c.rd v=some (D.atKey (.string s) (c.dat z0),ps)):v=c.enc ((kn s).getD z0):=by
 obtain ⟨h1,h2⟩:=hD s hs;cases hk:kn s with
 | none=>
  rw [hk] at h1;rw [Maps.atKey_of_not_has h1] at hv;exact c.inv _ _ _ hv
 | some m=>
  rw [h2 m hk] at hv;exact c.inv _ _ _ hv
theorem MpG.look(h:MpG c w b n kn)(hs:s.length≤maxLen)(hT:Tryz.prog.underlying T=some (.map 9 E)){z0:α}(hz:(zeroValue E).run Tryz.prog w = .ok (c.enc z0) w) :
  (Instr.lookup T (.map (some b)) (.string ⟨s.toArray⟩) true).run Tryz.prog w = .ok (.tuple #[c.enc ((kn s).getD z0),.bool (kn s).isSome]) w:=by
 obtain ⟨D,h1,h2⟩:=h;obtain ⟨v,ps,hr,hv⟩:=h1.look_ok law hT hz (zd:=c.dat z0) (c.rd_enc z0) (key_of hs);rw [hr,MpG.val hs h2 hv,(h2 s hs).1]
theorem MpG.look1(h:MpG c w b n kn)(hs:s.length≤maxLen)(hT:Tryz.prog.underlying T=some (.map 9 E)){z0:α}(hz:(zeroValue E).run Tryz.prog w = .ok (c.enc z0) w) :
  (Instr.lookup T (.map (some b)) (.string ⟨s.toArray⟩) false).run Tryz.prog w = .ok (c.enc ((kn s).getD z0)) w:=by
 obtain ⟨D,h1,h2⟩:=h;obtain ⟨v,ps,hr,hv⟩:=h1.lookup law hT hz (zd:=c.dat z0) (c.rd_enc z0) (key_of hs);rw [hr,MpG.val hs h2 hv]
theorem MpG.put(h:MpG c w b n kn)(hs:s.length≤maxLen)(hn:n < maxLen)(hT:Tryz.prog.underlying T=some (.map 9 E))(m:α) :
  ∃ w',(Instr.mapUpdate T (.map (some b)) (.string ⟨s.toArray⟩) (c.enc m)).run Tryz.prog w = .ok () w'∧MpG c w' b (n+1) (fun t=>if t=s then some m else kn t)∧w.mapTurned w' b:=by
 obtain ⟨D,h1,h2⟩:=h;obtain ⟨w',hr,h3,h4⟩:=h1.store law hT hn (key_of hs) (d:=c.dat m) (c.rd_enc m);refine ⟨w',hr,⟨_,h3,fun t ht=>?_⟩,h4⟩;dsimp only;by_cases e:t=s
 ·subst e;rw [if_pos rfl];refine ⟨Maps.has_put_same h1.isMap (isKeyS _) _,fun m' hm' z=>?_⟩;cases hm';exact Maps.atKey_put_same h1.isMap (isKeyS _) _ _
 ·rw [if_neg e];refine ⟨(Maps.has_put_other (key_ne e) _).trans (h2 t ht).1,fun m' hm' z=>?_⟩;exact (Maps.atKey_put_other (key_ne e) _ _).trans ((h2 t ht).2 m' hm' z)
theorem MpG.del(h:MpG c w b n kn)(hs:s.length≤maxLen)(hT:Tryz.prog.underlying T=some (.map 9 E))(ty:TypeId) :
  ∃ w',(Builtin.delete_ #[T,9] ty #[.map (some b),.string ⟨s.toArray⟩]).run Tryz.prog w = .ok (.tuple #[]) w'∧MpG c w' b n (fun t=>if t=s then none else kn t)∧w.mapTurned w' b:=by
 obtain ⟨D,h1,h2⟩:=h;obtain ⟨w',hr,h3,h4⟩:=h1.drop law hT (key_of hs) ty;refine ⟨w',hr,⟨_,h3,fun t ht=>?_⟩,h4⟩;dsimp only;by_cases e:t=s
 ·subst e;rw [if_pos rfl];refine ⟨Maps.has_del_same,fun m' hm'=>?_⟩;cases hm'
 ·rw [if_neg e];refine ⟨(Maps.has_del_other (key_ne e)).trans (h2 t ht).1,fun m' hm' z=>?_⟩;exact (Maps.atKey_del_other (key_ne e) _).trans ((h2 t ht).2 m' hm' z)
theorem MpG.made(c:Cod α)(w:World):MpG c (w.alloc (.map #[] 0)) w.heap.size 0 (fun _=>none):=
 ⟨_,World.ownsMap_made w _ _ _,fun s _=>⟨rfl,fun m hm=>by cases hm⟩⟩
end
theorem key_inv{key:Value}{kl:Lit}(h:keyOf Tryz.prog 9 key=some kl):∃ s:Bs,key = .string ⟨s.toArray⟩∧kl = .string s∧s.length≤maxLen:=by
 cases key <;> simp [keyOf,uStr,mapKey] at h;rename_i s;obtain ⟨h1,h2⟩:=h;exact ⟨s.data.toList,by simp,h2.symm,(by
  have:s.data.toList.length=s.size:=by simp
  rw [this];exact h1)⟩
def Tells{α:Type}(c:Cod α)(D:DataW Unit)(kn:Bs→Option α):Prop:=∀ s:Bs,s.length≤maxLen→Maps.has D (.string s)=(kn s).isSome∧∀ m,kn s=some m→∀ z,D.atKey (.string s) z=c.dat m
def MpR{α:Type}(c:Cod α)(w:World)(b r n:Nat)(kn:Bs→Option α)(left:Bs→Bool)(cnt:Nat):Prop:=
 ∃ (D:DataW Unit) (l:Lit→Bool),w.ranges Tryz.prog 9 c.rd b r n D l cnt∧Tells c D kn∧∀ s:Bs,s.length≤maxLen→l (.string s)=left s
section
variable {α : Type} {c : Cod α} {w : World} {b r n : Nat} {kn : Bs → Option α} {left : Bs → Bool} {cnt : Nat} {T E : TypeId}
theorem same_str(s t:Bs):(Lit.string t).sameKey (.string s)=(t==s):=by
 rw [Bool.eq_iff_iff,WideAt.sameKey_iff (isKeyS s)];simp
theorem MpG.range(h:MpG c w b n kn)(hT:Tryz.prog.underlying T=some (.map 9 E)) :
  ∃ w' cnt,(Instr.range T (.map (some b))).run Tryz.prog w = .ok (.pointer (some ⟨w.heap.size,0,none⟩)) w'∧MpR c w' b w.heap.size n kn (fun s=>(kn s).isSome) cnt∧w.grownBy w' none∧w'.heap.size=w.heap.size+1:=by
 obtain ⟨D,h1,h2⟩:=h;obtain ⟨w',r1,r2,r3,r4⟩:=h1.range law hT;exact ⟨w',_,r1,⟨D,_,r2,h2,fun s hs=>(h2 s hs).1⟩,r3,r4⟩
theorem MpR.owns(h:MpR c w b r n kn left cnt):MpG c w b n kn:=by
 obtain ⟨D,l,h1,h2,_⟩:=h;exact ⟨D,h1.owns,h2⟩
theorem MpR.next(h:MpR c w b r n kn left cnt)(ty:TypeId) :
  (cnt = 0∧(∀ s:Bs,s.length≤maxLen→left s=false)∧(Instr.next (.pointer (some ⟨r,0,none⟩)) false ty).run Tryz.prog w = .ok (.tuple #[.bool false]) w) ∨
  ∃ (s:Bs) (m:α) (w':World) (cnt':Nat),s.length≤maxLen∧left s=true∧kn s=some m∧(Instr.next (.pointer (some ⟨r,0,none⟩)) false ty).run Tryz.prog w = .ok (.tuple #[.bool true,.string ⟨s.toArray⟩,c.enc m]) w' ∧
   MpR c w' b r n kn (fun t=>left t && !(t==s)) cnt'∧cnt' < cnt∧w.grownBy w' (some r)∧w'.heap.size=w.heap.size∧(Instr.entry (.pointer (some ⟨r,0,none⟩))).run Tryz.prog w' = .ok (.tuple #[.string ⟨s.toArray⟩,c.enc m]) w':=by
 obtain ⟨D,l,h1,h2,h3⟩:=h;rcases h1.next law ty with ⟨h0,hl,hrun⟩ | ⟨key,v,kl,y,w',cnt',hkey,hlk,hv,hat,hrun,hrg,hlt,hgr,hsz,hen⟩
 ·exact .inl ⟨h0,fun s hs=>by rw [←h3 s hs];exact hl _,hrun⟩
 ·obtain ⟨s,rfl,rfl,hs⟩:=key_inv hkey;have hhas:Maps.has D (.string s)=true:=by
   cases hh:Maps.has D (.string s) with
   | true=>rfl
   | false=>
    have e1:=hat (.agg []);have e2:=hat (.agg [.agg []]);rw [Maps.atKey_of_not_has hh] at e1 e2;rw [←e2] at e1;cases e1
  have hk:=(h2 s hs).1;rw [hhas] at hk;obtain ⟨m,hm⟩:=Option.isSome_iff_exists.1 hk.symm;have hd:=(h2 s hs).2 m hm (.agg []);rw [hat] at hd;obtain ⟨d,ps⟩:=y;have hd':d=c.dat m:=hd;subst hd';have hve:=c.inv v m ps hv;subst hve;refine .inr ⟨s,m,w',cnt',hs,by rw [←h3 s hs];exact hlk,hm,hrun,⟨D,_,hrg,h2,fun t ht=>?_⟩,hlt,hgr,hsz,hen⟩;show (l (.string t) && !(Lit.string t).sameKey (.string s))=_;rw [h3 t ht,same_str]
theorem MpR.drop(h:MpR c w b r n kn left cnt)(hT:Tryz.prog.underlying T=some (.map 9 E)){s:Bs}(hs:s.length≤maxLen)(ty:TypeId) :
  ∃ w' cnt',(Builtin.delete_ #[T,9] ty #[.map (some b),.string ⟨s.toArray⟩]).run Tryz.prog w = .ok (.tuple #[]) w'∧MpR c w' b r n (fun t=>if t=s then none else kn t) (fun t=>left t && !(t==s)) cnt'∧cnt'≤cnt∧w.mapTurned w' b:=by
 obtain ⟨D,l,h1,h2,h3⟩:=h;obtain ⟨w',cnt',r1,r2,r3,r4⟩:=h1.drop law hT (key_of hs) ty;refine ⟨w',cnt',r1,⟨_,_,r2,fun t ht=>?_,fun t ht=>?_⟩,r3,r4⟩
 ·dsimp only;by_cases e:t=s
  ·subst e;rw [if_pos rfl];exact ⟨Maps.has_del_same,fun m' hm'=>by cases hm'⟩
  ·rw [if_neg e];exact ⟨(Maps.has_del_other (key_ne e)).trans (h2 t ht).1,fun m' hm' z=>(Maps.atKey_del_other (key_ne e) _).trans ((h2 t ht).2 m' hm' z)⟩
 ·show (l (.string t) && !(Lit.string t).sameKey (.string s))=_;rw [h3 t ht,same_str]
end
section
variable {α : Type} {c : Cod α} (w : World) {ops : Array Oper} {rest : List Oper} {o : Oper} {a : Act} {Q : Exit → Act → World → Prop} {b r n : Nat} {kn : Bs → Option α} {left : Bs → Bool} {cnt : Nat} {E : TypeId}
theorem wpList_range_G(hg:o.guard=none)(m:Operand)(T:TypeId)(hop:o.op=Op.range T m)(hT:Tryz.prog.underlying T=some (.map 9 E))(hm:a.eval m = .map (some b))(h:MpG c w b n kn)
  (hK:∀ w' cnt,MpR c w' b w.heap.size n kn (fun s=>(kn s).isSome) cnt→w.grownBy w' none→w'.heap.size=w.heap.size+1→wpList Tryz.prog ops Q rest (a.put o.dst (.pointer (some ⟨w.heap.size,0,none⟩))) w') :
  wpList Tryz.prog ops Q (o :: rest) a w:=by
 refine wpList_plain hg fun K' hK'=>?_
 obtain ⟨w',cnt,hrun,r1,r2,r3⟩:=h.range hT;unfold Oper.wp;simp [execOp,hop,hm,hrun,Result.andThen];exact hK' _ _ (hK w' cnt r1 r2 r3)
theorem wpList_next_G(hg:o.guard=none)(it:Operand)(hop:o.op=Op.next it false)(hit:a.eval it = .pointer (some ⟨r,0,none⟩))(h:MpR c w b r n kn left cnt)
  (hDone:cnt = 0→(∀ s:Bs,s.length≤maxLen→left s=false)→wpList Tryz.prog ops Q rest (a.put o.dst (.tuple #[.bool false])) w)
  (hMore:∀ (s:Bs) (m:α) (w':World) (cnt':Nat),s.length≤maxLen→left s=true→kn s=some m→MpR c w' b r n kn (fun t=>left t && !(t==s)) cnt'→cnt' < cnt→w.grownBy w' (some r)→w'.heap.size=w.heap.size →
   (Instr.entry (.pointer (some ⟨r,0,none⟩))).run Tryz.prog w' = .ok (.tuple #[.string ⟨s.toArray⟩,c.enc m]) w'→wpList Tryz.prog ops Q rest (a.put o.dst (.tuple #[.bool true,.string ⟨s.toArray⟩,c.enc m])) w') :
  wpList Tryz.prog ops Q (o :: rest) a w:=by
 refine wpList_plain hg fun K' hK'=>?_
 unfold Oper.wp;rcases h.next o.type with ⟨h0,hl,hrun⟩ | ⟨s,m,w',cnt',hs,hlk,hm,hrun,hrg,hlt,hgr,hsz,hen⟩
 ·simp [execOp,hop,hit,hrun,Result.andThen];exact hK' _ _ (hDone h0 hl)
 ·simp [execOp,hop,hit,hrun,Result.andThen];exact hK' _ _ (hMore s m w' cnt' hs hlk hm hrg hlt hgr hsz hen)
end
noncomputable def Cod.of {α:Type} (enc:α→Value) (dat:α→DataW Unit) (he:∀ a b,enc a=enc b→a=b) (hd:∀ a b,dat a=dat b→a=b):Cod α where
 enc:=enc
 dat:=dat
 rd:=fun v=>@dite _ (∃ a,enc a=v) (Classical.propDecidable _) (fun h=>some (dat h.choose,[])) fun _=>none
 rd_enc:=fun a=>by
  have h:∃ b,enc b=enc a:=⟨a,rfl⟩;rw [dif_pos h,he _ _ h.choose_spec]
 inv:=fun v a ps h=>by
  by_cases hv:∃ b,enc b=v
  ·rw [dif_pos hv] at h;have h1:dat hv.choose=dat a:=by
    have:=Option.some.inj h;exact congrArg (·.1) this
   rw [←hd _ _ h1];exact hv.choose_spec.symm
  ·rw [dif_neg hv] at h;cases h
def loN(m:Option (BitVec 32)):Int:=((m.getD 0).toNat:Int)
def wkV(m:Wk):Value:=.agg #[.bool m.sec,.bool m.loo.isSome,.int .u32 (loN m.loo)]
def wkD(m:Wk):DataW Unit:=.agg [.lit (.bool m.sec),.lit (.bool m.loo.isSome),.lit (.int .u32 (loN m.loo))]
theorem lo_inj{a b:Option (BitVec 32)}(h1:a.isSome=b.isSome)(h2:loN a=loN b):a=b:=by
 cases a with
 | none=>cases b with
  | none=>rfl
  | some y=>cases h1
 | some x=>cases b with
  | none=>cases h1
  | some y=>
   have:x.toNat=y.toNat:=Int.ofNat.inj h2;rw [BitVec.eq_of_toNat_eq this]
noncomputable def codW:Cod Wk:=Cod.of wkV wkD (fun a b h=>by
  obtain ⟨s,l⟩:=a;obtain ⟨s',l'⟩:=b;simp only [wkV,Value.agg.injEq,Array.mk.injEq,List.cons.injEq,Value.bool.injEq,Value.int.injEq,true_and,and_true] at h;obtain ⟨rfl,h1,h2⟩:=h;rw [lo_inj h1 h2]) fun a b h=>by
  obtain ⟨s,l⟩:=a;obtain ⟨s',l'⟩:=b;simp only [wkD,DataW.agg.injEq,List.cons.injEq,DataW.lit.injEq,Lit.bool.injEq,Lit.int.injEq,true_and,and_true] at h;obtain ⟨rfl,h1,h2⟩:=h;rw [lo_inj h1 h2]
structure Nd where
 k:Int
 a:Int
 s:Bs
 n:Nat
 A:Option Addr
 la:Nat
 cA:Nat
 B:Option Addr
 lb:Nat
 cB:Nat
def ndV(d:Nd):Value:=nzA d.k d.a d.s d.n d.A d.la d.cA d.B d.lb d.cB
def natD(n:Nat):DataW Unit:=.lit (.int .i64 (n:Int))
def adD:Option Addr→DataW Unit
 | none=>.nil
 | some ⟨b,o,none⟩=>.agg [natD b,natD o]
 | some ⟨b,o,some p⟩=>.agg [natD b,natD o,natD p]
theorem natD_inj{a b:Nat}(h:natD a=natD b):a=b:=by
 simp only [natD,DataW.lit.injEq,Lit.int.injEq,true_and] at h;omega
theorem adD_inj:∀ {A B:Option Addr},adD A=adD B→A=B
 | none,none,_=>rfl
 | some ⟨b,o,none⟩,none,h=>by simp [adD] at h
 | some ⟨b,o,some p⟩,none,h=>by simp [adD] at h
 | none,some ⟨b,o,none⟩,h=>by simp [adD] at h
 | none,some ⟨b,o,some p⟩,h=>by simp [adD] at h
 | some ⟨b,o,none⟩,some ⟨b',o',none⟩,h=>by
  simp only [adD,DataW.agg.injEq,List.cons.injEq,and_true] at h;rw [natD_inj h.1,natD_inj h.2]
 | some ⟨b,o,none⟩,some ⟨b',o',some p'⟩,h=>by simp [adD] at h
 | some ⟨b,o,some p⟩,some ⟨b',o',none⟩,h=>by simp [adD] at h
 | some ⟨b,o,some p⟩,some ⟨b',o',some p'⟩,h=>by
  simp only [adD,DataW.agg.injEq,List.cons.injEq,and_true] at h;rw [natD_inj h.1,natD_inj h.2.1,natD_inj h.2.2]
def ndD(d:Nd):DataW Unit:=.agg [.lit (.int .i64 d.k),.lit (.int .i64 d.a),.lit (.string d.s),natD d.n,adD d.A,natD d.la,natD d.cA,adD d.B,natD d.lb,natD d.cB]
noncomputable def codN:Cod Nd:=Cod.of ndV ndD (fun a b h=>by
  obtain ⟨k,a,s,n,A,la,cA,B,lb,cB⟩:=a;obtain ⟨k',a',s',n',A',la',cA',B',lb',cB'⟩:=b;simp only [ndV,Value.agg.injEq,Array.mk.injEq,List.cons.injEq,Value.string.injEq,Value.slice.injEq,Value.int.injEq,true_and,and_true] at h;obtain ⟨rfl,h1,h2,rfl,⟨rfl,rfl,rfl⟩,rfl,rfl,rfl⟩:=h;have e1:s=s':=by
   have:=congrArg (fun b:ByteArray=>b.data.toList) h1;simpa using this
  have e2:n=n':=by omega
  rw [e1,e2]) fun a b h=>by
  obtain ⟨k,a,s,n,A,la,cA,B,lb,cB⟩:=a;obtain ⟨k',a',s',n',A',la',cA',B',lb',cB'⟩:=b;simp only [ndD,DataW.agg.injEq,List.cons.injEq,DataW.lit.injEq,Lit.int.injEq,Lit.string.injEq,true_and,and_true] at h;obtain ⟨rfl,rfl,rfl,h1,h2,h3,h4,h5,h6,h7⟩:=h;rw [natD_inj h1,adD_inj h2,natD_inj h3,natD_inj h4,adD_inj h5,natD_inj h6,natD_inj h7]
/-! The maps' runs. -/
abbrev zWk:Wk:=⟨false,none⟩
abbrev zNd:Nd:=⟨0,0,[],0,none,0,0,none,0,0⟩
theorem zFa(w:World):(zeroValue 180).run Tryz.prog w = .ok (codW.enc zWk) w:=by
 show _=Result.ok (wkV zWk) w;kernel_rfl
theorem zNo(w:World):(zeroValue 26).run Tryz.prog w = .ok (codN.enc zNd) w:=by
 show _=Result.ok (ndV zNd) w;kernel_rfl
theorem uFa:Tryz.prog.underlying 116=some (.map 9 180):=by kernel_rfl
theorem uFn:Tryz.prog.underlying 73=some (.map 9 26):=by kernel_rfl
def wkAt(kn:Kw)(s:Bs):Wk:=(kn s).getD zWk
theorem wkAt_lo(kn:Kw)(s:Bs):(wkAt kn s).loo=looB kn s:=by
 unfold wkAt looB;cases kn s <;> rfl
theorem wkAt_sec(kn:Kw)(s:Bs):(wkAt kn s).sec=secB kn s:=by
 unfold wkAt secB;cases kn s <;> rfl
abbrev MpW(w:World)(b n:Nat)(kn:Kw):Prop:=MpG codW w b n kn
abbrev MpN(w:World)(b n:Nat)(kn:Bs→Option Nd):Prop:=MpG codN w b n kn
section
variable {w : World} {b n : Nat} {kn : Kw} {kd : Bs → Option Nd} {s : Bs}
theorem mpw_look(h:MpW w b n kn)(hs:s.length≤maxLen):(Instr.lookup 116 (.map (some b)) (.string ⟨s.toArray⟩) true).run Tryz.prog w = .ok (.tuple #[wkV (wkAt kn s),.bool (kn s).isSome]) w:=h.look hs uFa (zFa w)
theorem mpw_look1(h:MpW w b n kn)(hs:s.length≤maxLen):(Instr.lookup 116 (.map (some b)) (.string ⟨s.toArray⟩) false).run Tryz.prog w = .ok (wkV (wkAt kn s)) w:=h.look1 hs uFa (zFa w)
theorem mpw_put(h:MpW w b n kn)(hs:s.length≤maxLen)(hn:n < maxLen)(m:Wk) :
  ∃ w',(Instr.mapUpdate 116 (.map (some b)) (.string ⟨s.toArray⟩) (wkV m)).run Tryz.prog w = .ok () w'∧MpW w' b (n+1) (kn.put s m)∧w.mapTurned w' b:=h.put hs hn uFa m
theorem mpn_look1(h:MpN w b n kd)(hs:s.length≤maxLen):(Instr.lookup 73 (.map (some b)) (.string ⟨s.toArray⟩) false).run Tryz.prog w = .ok (ndV ((kd s).getD zNd)) w:=h.look1 hs uFn (zNo w)
theorem mpn_put(h:MpN w b n kd)(hs:s.length≤maxLen)(hn:n < maxLen)(m:Nd) :
  ∃ w',(Instr.mapUpdate 73 (.map (some b)) (.string ⟨s.toArray⟩) (ndV m)).run Tryz.prog w = .ok () w'∧MpN w' b (n+1) (fun t=>if t=s then some m else kd t)∧w.mapTurned w' b:=h.put hs hn uFn m
end
def FnD(w0:World)(f:List Bs×List Tz)(d:Nd):Prop:=TIc True w0 (.mk d.k d.a d.s d.n f.1 f.2) (nzC d.k d.a d.s d.n d.A d.la d.cA d.B d.lb d.cB)∧(∀ p∈f.1,p.length≤maxLen)∧lenzs f.2∧nzs f.2
def FuM(w0 w:World)(b n:Nat)(fu:Fu):Prop:=
 ∃ kd,MpN w b n kd∧∀ s,match fu s with | none=>kd s=none | some f=>∃ d,kd s=some d∧FnD w0 f d
section
variable {w0 w w' : World} {b n : Nat} {fu : Fu} {X : Nat → Prop}
theorem FuM.upd(h:FuM w0 w b n fu)(hu:Upd X w w')(hx:¬ X b):FuM w0 w' b n fu:=by
 obtain ⟨kd,h1,h2⟩:=h;exact ⟨kd,h1.upd hu hx,h2⟩
theorem FuM.lt(h:FuM w0 w b n fu):b < w.heap.size:=by obtain ⟨kd,h1,h2⟩:=h;exact h1.lt
theorem FuM.mono(h:FuM w0 w b n fu){m:Nat}(hm:n≤m):FuM w0 w b m fu:=by
 obtain ⟨kd,h1,h2⟩:=h;exact ⟨kd,h1.mono hm,h2⟩
end
theorem nzs_at:∀ {l:List Tz},nzs l→∀ {i:Nat} {x:Tz},l[i]?=some x→nz x
 | [],_,i,x,h=>by simp at h
 | y :: l,h,0,x,hx=>by
  have:y=x:=by simpa using hx
  subst this;unfold nzs at h;exact h.1
 | y :: l,h,i+1,x,hx=>by
  unfold nzs at h;exact nzs_at h.2 (by simpa using hx)
theorem nz_parts{k a:Int}{s:Bs}{n:Nat}{ps:List Bs}{l:List Tz}(h:nz (.mk k a s n ps l)):n < 4294967296∧nzs l:=by unfold nz at h;exact h
theorem nzs_take:∀ (i:Nat) {l:List Tz},nzs l→nzs (l.take i)
 | 0,l,h=>by simp [nzs]
 | i+1,[],h=>by simp [nzs]
 | i+1,x :: l,h=>by
  unfold nzs at h;rw [List.take_succ_cons];unfold nzs;exact ⟨h.1,nzs_take i h.2⟩
theorem nzs_drop:∀ (i:Nat) {l:List Tz},nzs l→nzs (l.drop i)
 | 0,l,h=>h
 | i+1,[],h=>by simp [nzs]
 | i+1,x :: l,h=>by
  unfold nzs at h;rw [List.drop_succ_cons];exact nzs_drop i h.2
theorem lenzs_take:∀ (i:Nat) {l:List Tz},lenzs l→lenzs (l.take i)
 | 0,l,h=>by simp [lenzs]
 | i+1,[],h=>by simp [lenzs]
 | i+1,x :: l,h=>by
  unfold lenzs at h;rw [List.take_succ_cons];unfold lenzs;exact ⟨h.1,lenzs_take i h.2⟩
theorem lenzs_drop:∀ (i:Nat) {l:List Tz},lenzs l→lenzs (l.drop i)
 | 0,l,h=>h
 | i+1,[],h=>by simp [lenzs]
 | i+1,x :: l,h=>by
  unfold lenzs at h;rw [List.drop_succ_cons];exact lenzs_drop i h.2
theorem tsIz_drop{q:Prop}{w:World}:∀ (i:Nat) {l:List Tz} {css:List (List Value)},TsIc q w l css→TsIc q w (l.drop i) (css.drop i)
 | 0,l,css,h=>h
 | i+1,[],css,h=>by unfold TsIc at h;subst h;simp [TsIc]
 | i+1,x :: l,css,h=>by
  unfold TsIc at h;obtain ⟨c,r,rfl,h2,h3⟩:=h;rw [List.drop_succ_cons,List.drop_succ_cons];exact tsIz_drop i h3
theorem tsIz_take{q:Prop}{w:World}:∀ (i:Nat) {l:List Tz} {css:List (List Value)},TsIc q w l css→TsIc q w (l.take i) (css.take i)
 | 0,l,css,h=>by simp [TsIc]
 | i+1,[],css,h=>by unfold TsIc at h;subst h;simp [TsIc]
 | i+1,x :: l,css,h=>by
  unfold TsIc at h;obtain ⟨c,r,rfl,h2,h3⟩:=h;rw [List.take_succ_cons,List.take_succ_cons];unfold TsIc;exact ⟨c,_,rfl,h2,tsIz_take i h3⟩
theorem flat_len{q:Prop}{w:World}:∀ {l:List Tz} {css:List (List Value)},TsIc q w l css→css.flatten.length=l.length * 6
 | [],css,h=>by unfold TsIc at h;subst h;rfl
 | x :: l,css,h=>by
  unfold TsIc at h;obtain ⟨c,r,rfl,h2,h3⟩:=h;obtain ⟨_,_,_,_,_,_,_,_,_,_,rfl⟩:=tIz_cells h2;rw [List.flatten_cons,List.length_append,flat_len h3,List.length_cons];show 6+_=_;omega
theorem flat_drop{q:Prop}{w:World}:∀ (i:Nat) {l:List Tz} {css:List (List Value)},TsIc q w l css→i≤l.length→(css.drop i).flatten=css.flatten.drop (i * 6)
 | 0,l,css,h,_=>by simp
 | i+1,[],css,h,hi=>absurd hi (Nat.not_succ_le_zero _)
 | i+1,x :: l,css,h,hi=>by
  unfold TsIc at h;obtain ⟨c,r,rfl,h2,h3⟩:=h;have hc:c.length = 6:=by obtain ⟨_,_,_,_,_,_,_,_,_,_,rfl⟩:=tIz_cells h2;rfl
  have e1:c.drop ((i+1) * 6)=[]:=List.drop_eq_nil_of_le (by omega);rw [List.drop_succ_cons,flat_drop i h3 (by simpa using hi),List.flatten_cons,List.drop_append,e1,hc,List.nil_append]
  congr 1
  omega
theorem lies_take{w:World}{A:Option Addr}{xs ys:List Value}(h:Lies w A (xs ++ ys)):Lies w A xs:=fun j u hj=>h j u (by
 have:=(List.getElem?_eq_some_iff.1 hj).1;rw [List.getElem?_append_left this];exact hj)
theorem flat_take{q:Prop}{w:World}{A:Option Addr}{W:World}(i:Nat){css:List (List Value)}(h:Lies W A css.flatten):Lies W A (css.take i).flatten:=by
 have e:css.flatten=(css.take i).flatten ++ (css.drop i).flatten:=by rw [←List.flatten_append,List.take_append_drop]
 rw [e] at h;exact lies_take h
structure Pts(w:World)(A:Option Addr)(c:Nat)(l:List Tz):Prop where
 lies:∃ css,Lies w A css.flatten∧TsIc True w l css
 le:l.length≤c
 cap:c≤maxLen
 len:lenzs l
 num:nzs l
theorem Pts.below{w w':World}{A:Option Addr}{c:Nat}{l:List Tz}(h:Pts w A c l)(hb:Below w.heap.size w w'):Pts w' A c l:=by
 obtain ⟨⟨css,h1,h2⟩,h3,h4,h5,h6⟩:=h;exact ⟨⟨css,h1.below hb,TsIz.below hb h2⟩,h3,h4,h5,h6⟩
theorem Pts.take{w:World}{A:Option Addr}{c c':Nat}{l:List Tz}(h:Pts w A c l)(i:Nat)(h1:(l.take i).length≤c')(h2:c'≤maxLen){A':Option Addr}(hA:∀ W xs,Lies W A xs→Lies W A' xs):Pts w A' c' (l.take i):=by
 obtain ⟨⟨css,g1,g2⟩,h3,h4,h5,h6⟩:=h;exact ⟨⟨css.take i,hA _ _ (flat_take (q:=True) (w:=w) i g1),tsIz_take i g2⟩,h1,h2,lenzs_take i h5,nzs_take i h6⟩
theorem Pts.drop{w:World}{A:Option Addr}{c c':Nat}{l:List Tz}(h:Pts w A c l)(i:Nat)(h1:(l.drop i).length≤c')(h2:c'≤maxLen){A':Option Addr}(hA:0 < l.length - i→∀ W xs,Lies W A xs→Lies W A' (xs.drop (i * 6))):Pts w A' c' (l.drop i):=by
 obtain ⟨⟨css,g1,g2⟩,h3,h4,h5,h6⟩:=h;rcases Nat.lt_or_ge i l.length with hi | hi
 ·refine ⟨⟨css.drop i,?_,tsIz_drop i g2⟩,h1,h2,lenzs_drop i h5,nzs_drop i h6⟩;rw [flat_drop i g2 (Nat.le_of_lt hi)];exact hA (by omega) _ _ g1
 ·rw [List.drop_eq_nil_of_le hi] at h1 ⊢;exact ⟨⟨[],fun j u hj=>by simp at hj,by unfold TsIc;rfl⟩,h1,h2,by unfold lenzs;trivial,by unfold nzs;trivial⟩
def TrV(w:World)(z:Tz)(k a:Int)(s:Bs)(n:Nat)(A:Option Addr)(la cA:Nat)(B:Option Addr)(lb cB:Nat):Prop:=TIc True w z (nzC k a s n A la cA B lb cB)∧lenz z∧nz z
theorem TrV.below{w w':World}{z:Tz}{k a:Int}{s:Bs}{n:Nat}{A:Option Addr}{la cA:Nat}{B:Option Addr}{lb cB:Nat}(h:TrV w z k a s n A la cA B lb cB)(hb:Below w.heap.size w w'):TrV w' z k a s n A la cA B lb cB:=⟨TIz.below hb h.1,h.2⟩
theorem TrV.parts{w:World}{k1 a1:Int}{s1:Bs}{n1:Nat}{ps:List Bs}{l:List Tz}{k a:Int}{s:Bs}{n:Nat}{A:Option Addr}{la cA:Nat}{B:Option Addr}{lb cB:Nat}(h:TrV w (.mk k1 a1 s1 n1 ps l) k a s n A la cA B lb cB) :
  k=k1∧a=a1∧s=s1∧n=n1∧la=l.length∧lb=ps.length∧Pts w A cA l∧s1.length≤maxLen∧n1 < 4294967296∧Lies w B (ps.map strV)∧(∀ p∈ps,p.length≤maxLen)∧lb≤cB∧cB≤maxLen:=by
 obtain ⟨h1,h2,h3⟩:=h;obtain ⟨c1,c2⟩:=tIz_cap h1;obtain ⟨d1,d2⟩:=tIz_pcap h1;obtain ⟨rfl,rfl,rfl,rfl,rfl,rfl,hl,hp,hB,css,hL,hS⟩:=tIz_parts h1;obtain ⟨g1,g2,g3⟩:=lenz_parts h2;obtain ⟨i1,i2⟩:=nz_parts h3;exact ⟨rfl,rfl,rfl,rfl,rfl,rfl,⟨⟨css,hL,hS⟩,c1,c2,g3,i2⟩,g1,i1,hB,g2,d1,d2⟩
theorem Pts.at_{w0 w:World}{A:Option Addr}{c:Nat}{l:List Tz}(h:Pts w0 A c l)(hb:Below w0.heap.size w0 w){i:Nat}{y:Tz}(hy:l[i]?=some y) :
  ∃ b o k a s n A' la cA B lb cB,A=some ⟨b,o,none⟩∧TrV w0 y k a s n A' la cA B lb cB∧b < w0.heap.size∧w.cell? ⟨b,o+i * 6,none⟩=some (.int .i64 k)∧w.cell? ⟨b,o+i * 6+1,none⟩=some (.string ⟨s.toArray⟩) ∧
   w.cell? ⟨b,o+i * 6+2,none⟩=some (.int .u32 (n:Int))∧w.cell? ⟨b,o+i * 6+3,none⟩=some (.int .i64 a)∧w.cell? ⟨b,o+i * 6+4,none⟩=some (.slice A' la cA)∧w.cell? ⟨b,o+i * 6+5,none⟩=some (.slice B lb cB):=by
 obtain ⟨⟨css,g1,g2⟩,_,_,h5,h6⟩:=h;obtain ⟨b,o,k,a,s,n,A',la,cA,B,lb,cB,h1,h2,h3,e0,e1,e2,e3,e4,e5⟩:=partz_b hb g1 g2 hy;exact ⟨b,o,k,a,s,n,A',la,cA,B,lb,cB,h1,⟨h2,lenzs_at h5 hy,nzs_at h6 hy⟩,h3,e0,e1,e2,e3,e4,e5⟩
abbrev panF(a:Int)(er:Nat):Ending:=.panicked [{ v:=.iface 113 (.agg #[.int .i64 a,.int .i64 (er:Int)]),recovered:=false }]
theorem Blk.c7{w:World}{g:Nat}{t:TypeId}{a b c d e f h:Value}(H:Blk w g t #[a,b,c,d,e,f,h]) :
  (w.cell? ⟨g,0,none⟩=some a∧w.cell? ⟨g,1,none⟩=some b∧w.cell? ⟨g,2,none⟩=some c∧w.cell? ⟨g,3,none⟩=some d∧w.cell? ⟨g,4,none⟩=some e∧w.cell? ⟨g,5,none⟩=some f∧w.cell? ⟨g,6,none⟩=some h):=
 ⟨H.cell 0,H.cell 1,H.cell 2,H.cell 3,H.cell 4,H.cell 5,H.cell 6⟩
end Go.Proofs.YtcgibpdjfgjldaaGreatDoor.Fl
namespace Go.Proofs.YtcgibpdjfgjldaaGreatDoor.WMath
open Go
theorem ofInt_toNat(x:BitVec 32):BitVec.ofInt 32 (x.toNat:Int)=x:=by
 rw [BitVec.ofInt_natCast,BitVec.ofNat_toNat];simp
theorem wrapU32(x:BitVec 32):IntKind.u32.wrap (x.toNat:Int)=(x.toNat:Int):=by
 rw [IntKind.wrap_u32];have:=x.isLt;omega
theorem b_and(x y:BitVec 32):bits .and .u32 (x.toNat:Int) (y.toNat:Int)=((x &&& y).toNat:Int):=by
 show IntKind.u32.wrap ((BitVec.ofInt 32 (x.toNat:Int) &&& BitVec.ofInt 32 (y.toNat:Int)).toNat:Int)=_;rw [ofInt_toNat,ofInt_toNat,wrapU32]
theorem b_or(x y:BitVec 32):bits .or .u32 (x.toNat:Int) (y.toNat:Int)=((x ||| y).toNat:Int):=by
 show IntKind.u32.wrap ((BitVec.ofInt 32 (x.toNat:Int) ||| BitVec.ofInt 32 (y.toNat:Int)).toNat:Int)=_;rw [ofInt_toNat,ofInt_toNat,wrapU32]
theorem b_xor(x y:BitVec 32):bits .xor .u32 (x.toNat:Int) (y.toNat:Int)=((x ^^^ y).toNat:Int):=by
 show IntKind.u32.wrap ((BitVec.ofInt 32 (x.toNat:Int) ^^^ BitVec.ofInt 32 (y.toNat:Int)).toNat:Int)=_;rw [ofInt_toNat,ofInt_toNat,wrapU32]
theorem b_andNot(x y:BitVec 32):bits .andNot .u32 (x.toNat:Int) (y.toNat:Int)=((x &&& ~~~y).toNat:Int):=by
 show IntKind.u32.wrap ((BitVec.ofInt 32 (x.toNat:Int) &&& ~~~BitVec.ofInt 32 (y.toNat:Int)).toNat:Int)=_;rw [ofInt_toNat,ofInt_toNat,wrapU32]
theorem top(x:BitVec 32):(((x.toNat:Int) / 2147483648)==1)=x.msb:=by
 rw [BitVec.msb_eq_decide,Bool.eq_iff_iff];have:=x.isLt;simp;omega
def cin(c:Bool):BitVec 32:=if c then 1 else 0
def sum(a b:BitVec 32)(c:Bool):BitVec 32:=a+b+cin c
def over(a b:BitVec 32)(c:Bool):Bool:=(a.msb ^^ (sum a b c).msb) && (b.msb ^^ (sum a b c).msb)
end Go.Proofs.YtcgibpdjfgjldaaGreatDoor.WMath
namespace Go.Proofs.YtcgibpdjfgjldaaGreatDoor.Word
open Go.ChangeShapes Go.WideShapes Go.ChangeAt Go.RowKit WMath
abbrev u(x:BitVec 32):Value:=.int .u32 (x.toNat:Int)
theorem bd(x:BitVec 32):(x.toNat:Int) < 4294967296:=by have:=x.isLt;omega
theorem sel(m a b:BitVec 32)(w:World) :
  Calls Tryz.prog 110 #[u m,u a,u b] w fun e w'=>e = .returned (u ((a &&& m) ||| (b &&& ~~~m)))∧w=w':=by
 have h1:=bd m;have h2:=bd a;have h3:=bd b;go_enter Tryz.func110,Tryz.ntmps110
 go_wp2
 go_ret;refine ⟨?_,rfl⟩;show Ending.returned (.int .u32 (bits .or .u32 (bits .and .u32 (a.toNat:Int) (m.toNat:Int)) (bits .andNot .u32 (b.toNat:Int) (m.toNat:Int))))=_;rw [b_and,b_andNot,b_or]
theorem highest(a:BitVec 32)(w:World):Calls Tryz.prog 135 #[u a] w fun e w'=>e = .returned (.bool a.msb)∧w=w':=by
 have h2:=bd a;go_enter Tryz.func135,Tryz.ntmps135
 go_wp2
 go_ret;refine ⟨?_,rfl⟩;show Ending.returned (.bool ((a.toNat:Int) / 2147483648==1))=_;rw [top]
end Go.Proofs.YtcgibpdjfgjldaaGreatDoor.Word
namespace Go.Proofs.YtcgibpdjfgjldaaGreatDoor
open Go.ChangeShapes Go.WideShapes Go.ChangeAt Go.RowKit WMath Word
theorem b_not(x:BitVec 32):bits .xor .u32 4294967295 (x.toNat:Int)=((~~~x).toNat:Int):=by
 have h:=b_xor 4294967295#32 x;rw [show ((4294967295#32).toNat:Int) = 4294967295 from rfl] at h;rw [h]
 congr 2
theorem un_not(x:BitVec 32):Op.unary .xor (.int .u32 (x.toNat:Int))=pure (Value.int .u32 ((~~~x).toNat:Int)):=by
 show pure (Value.int .u32 (bits .xor .u32 4294967295 (x.toNat:Int)))=_;rw [b_not]
end Go.Proofs.YtcgibpdjfgjldaaGreatDoor
