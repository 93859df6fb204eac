/- DERIVED. FlEq, NmMap, FlMap, FlRange, LxC, LxK, LxJ, PaSk, PaMo, PaAp. By an AI agent. -/
import Derived.Test.YtdhoemlomojfaaaGreatDoorW09
import Derived.Test.YtdhoemlomojfaaaGreatDoorW08
import Derived.Maps.OwnSet
import Derived.Maps.Views
import Derived.StringKeys
import Derived.ProofKit
import Derived.Maps.RangeWalk
import Derived.Test.YtdhoemlomojfaaaGreatDoorW07
import Derived.Test.YtdhoemlomojfaaaGreatDoorRows
import Derived.Test.YtdhoemlomojfaaaGreatDoorW02
import Derived.WalkKit
import Derived.Lib.Hide
import Derived.BigQuiet
set_option linter.unusedVariables false
set_option linter.unusedSimpArgs false
namespace Go.Proofs.YtdhoemlomojfaaaGreatDoor.Fl
open Lx Pa Sh Go.Proofs.YtdhoemlomojfaaaGreatDoor.Nm
section
variable (num : Num) (M : Int) (fu : Fu)
def calR(c:Nat)(kn:Kw)(a:Int)(s:Bs)(l:List Tz)(nd:Int):Rf (Bool×Int):=
 match c with
 | 0=>.bad a 150
 | c+1=>if M < nd then .bad a 150 else bndF (seqB (exC num M fu c kn) l nd) fun q=>calB fu (exC num M fu c) s q
def shR(c:Nat)(kn:Kw)(l:List Tz)(nd:Int):Rf (Bool×Int):=
 match strBs (looB kn) ((l.drop 1).take 1) with
 | some e=>.bad e.2.1 (badB kn e)
 | none=>bndF (seqB (exC num M fu c kn) (l.take 1) nd) fun q=>.ok (q.1.any id,q.2)
end
section
variable {num : Num} {M : Int} {fu : Fu}
theorem seqB_nil(f:Tz→Int→Rf (Bool×Int))(nd:Int):seqB f [] nd = .ok ([],nd):=rfl
theorem seqB_cons(f:Tz→Int→Rf (Bool×Int))(x:Tz)(l:List Tz)(nd:Int):seqB f (x :: l) nd=bndF (f x nd) fun q=>bndF (seqB f l q.2) fun r=>.ok (q.1 :: r.1,r.2):=rfl
theorem exTs_seq{deep:Bool}{sub:Sub}{kn:Kw}:∀ (l:List Tz) (nd:Int),exTs num M fu deep sub kn l nd=seqB (exT num M fu deep sub kn) l nd
 | [],nd=>by unfold exTs;rfl
 | x :: l,nd=>by
  conv=>lhs;unfold exTs
  rw [seqB_cons]
  congr 1
  funext q
  rw [exTs_seq l q.2]
theorem bnd_assoc{α β γ:Type}(r:Rf α)(f:α→Rf β)(g:β→Rf γ):bndF (bndF r f) g=bndF r fun x=>bndF (f x) g:=by
 cases r <;> rfl
theorem seq_one(f:Tz→Int→Rf (Bool×Int))(x:Tz)(nd:Int):bndF (seqB f [x] nd) (fun q=>.ok (q.1.any id,q.2))=f x nd:=by
 rw [seqB_cons,bnd_assoc];cases f x nd with
 | bad a e=>rfl
 | ok q=>
  show Rf.ok (([q.1]:List Bool).any id,q.2)=_;simp
theorem exS_sh{deep:Bool}{sub:Sub}{kn:Kw}(l:List Tz)(nd:Int):exS num M fu deep sub kn l nd=match strBs (looB kn) ((l.drop 1).take 1) with
 | some e=>.bad e.2.1 (badB kn e)
 | none=>bndF (seqB (exT num M fu deep sub kn) (l.take 1) nd) fun q=>.ok (q.1.any id,q.2):=by
 match l with
 | []=>unfold exS;rfl
 | [x]=>
  unfold exS;show exT num M fu deep sub kn x nd=bndF (seqB (exT num M fu deep sub kn) [x] nd) fun q=>.ok (q.1.any id,q.2)
  rw [seq_one]
 | x :: y :: l=>
  unfold exS;show bndF (nuB num kn y) (fun _=>exT num M fu deep sub kn x nd)=match strBs (looB kn) [y] with
   | some e=>.bad e.2.1 (badB kn e)
   | none=>bndF (seqB (exT num M fu deep sub kn) [x] nd) fun q=>.ok (q.1.any id,q.2)
  rw [seq_one];unfold nuB;have e:strBs (looB kn) [y]=strB (looB kn) y:=by
   unfold strBs;cases strB (looB kn) y with
   | some e=>rfl
   | none=>unfold strBs;rfl
  rw [e];cases strB (looB kn) y <;> rfl
theorem exC_0:exC num M fu 0=exT num M fu true fun _ _ nd=>.ok (false,nd):=by unfold exC;rfl
theorem exC_s(c:Nat):exC num M fu (c+1)=exT num M fu false (exC num M fu c):=by conv=>lhs;unfold exC
theorem exC_mk(c:Nat)(kn:Kw)(k a:Int)(s:Bs)(n:Nat)(ps:List Bs)(l:List Tz)(nd:Int):exC num M fu c kn (.mk k a s n ps l) nd =
  if k = 5 then calR num M fu c kn a s l (nx nd) else if k = 4 then shR num M fu c kn l (nx nd)
  else bndF (seqB (exC num M fu c kn) l (nx nd)) fun q=>.ok (if k = 1 then secB kn s else if k = 2∨k = 3 then q.1.any id else false,q.2):=by
 unfold shR calR;cases c with
 | zero=>
  rw [exC_0]
  conv=>lhs;unfold exT
  rw [exS_sh,exTs_seq];simp only [or_true,if_true]
 | succ c=>
  rw [exC_s]
  conv=>lhs;unfold exT
  rw [exS_sh,exTs_seq];simp only [Bool.false_eq_true,or_false]
theorem par_take:∀ (ps:List Bs) (bs:List Bool),parB ps bs=parB (ps.take bs.length) bs
 | [],bs=>by simp
 | p :: ps,[]=>by simp [parB]
 | p :: ps,b :: bs=>by
  rw [List.length_cons,List.take_succ_cons];unfold parB;rw [par_take ps bs]
theorem par_snoc:∀ (ps:List Bs) (bs:List Bool) (p:Bs) (b:Bool),ps.length=bs.length→parB (ps ++ [p]) (bs ++ [b])=(parB ps bs).put p ⟨b,none⟩
 | [],[],p,b,_=>by
  funext t
  show (match (parB [] [] t:Option Wk) with | some m=>some m | none=>if t=p then some ⟨b,none⟩ else none)=if t=p then some ⟨b,none⟩ else parB [] [] t
  unfold parB;rfl
 | q :: ps,c :: bs,p,b,h=>by
  funext t
  have ih:=congrFun (par_snoc ps bs p b (by simpa using h)) t;show (match parB (ps ++ [p]) (bs ++ [b]) t with | some m=>some m | none=>if t=q then some ⟨c,none⟩ else none)=if t=p then some ⟨b,none⟩ else parB (q :: ps) (c :: bs) t
  rw [ih];unfold Kw.put;by_cases e:t=p
  ·rw [if_pos e,if_pos e]
  ·rw [if_neg e,if_neg e];rfl
 | [],_ :: _,_,_,h=>by simp at h
 | _ :: _,[],_,_,h=>by simp at h
end
end Go.Proofs.YtdhoemlomojfaaaGreatDoor.Fl
namespace Go.Proofs.YtdhoemlomojfaaaGreatDoor.Nm
open Go Go.ChangeShapes Go.WideShapes Go.ChangeAt Go.RowKit Lx Args Pa Sh
def meanR:Value→Option (DataW Unit×List MemPlace)
 | .agg cs=>match cs.toList with
  | [.int .i64 a,.int .i64 p]=>some (.agg [.lit (.int .i64 a),.lit (.int .i64 p)],[])
  | _=>none
 | _=>none
def mD(m:Nat×Nat):DataW Unit:=.agg [.lit (.int .i64 (m.1:Int)),.lit (.int .i64 (m.2:Int))]
theorem meanR_mk(a p:Int):meanR (.agg #[.int .i64 a,.int .i64 p])=some (.agg [.lit (.int .i64 a),.lit (.int .i64 p)],[]):=by simp [meanR]
theorem meanR_inv{v:Value}{m:Nat×Nat}{ps:List MemPlace}(h:meanR v=some (mD m,ps)):v = .agg #[.int .i64 (m.1:Int),.int .i64 (m.2:Int)]:=by
 unfold meanR at h;split at h
 ·rename_i cs;split at h
  ·rename_i a p hcs;simp only [Option.some.injEq,Prod.mk.injEq,mD,DataW.agg.injEq,List.cons.injEq,DataW.lit.injEq,Lit.int.injEq,true_and,and_true] at h;obtain ⟨⟨rfl,rfl⟩,_⟩:=h;have:cs=[Value.int .i64 (m.1:Int),.int .i64 (m.2:Int)].toArray:=by rw [←hcs]
   rw [this]
  ·cases h
 ·cases h
theorem uStr:Tryz.prog.underlying 9=some .string:=by kernel_rfl
theorem law:Maps.Keyed Tryz.prog 9:=Maps.string_keyed uStr
theorem key_of{s:Bs}(hs:s.length≤maxLen):keyOf Tryz.prog 9 (.string ⟨s.toArray⟩)=some (.string s):=by
 have:=WideMaps.keyOf_string_mk (P:=Tryz.prog) (k:=9) uStr (s:=⟨s.toArray⟩) (by simpa [ByteArray.size] using hs);simpa using this
theorem isKeyS(s:Bs):WideAt.IsKeyLit (.string s):=trivial
theorem key_ne{s t:Bs}(h:t≠s):(Lit.string t)≠.string s:=fun e=>h (by cases e;rfl)
structure MpK(w:World)(b n:Nat)(kn:Kn):Prop where
 ex:∃ D:DataW Unit,w.ownsMap Tryz.prog 9 meanR b n D∧∀ s:Bs,s.length≤maxLen→Maps.has D (.string s)=(kn s).isSome∧∀ m,kn s=some m→∀ z,D.atKey (.string s) z=mD m
 sorts:∀ s m,kn s=some m→m.1≤3∧m.2≤maxLen
structure MpS(w:World)(b n:Nat)(f:Bs→Bool):Prop where
 ex:∃ D:DataW Unit,w.ownsMap Tryz.prog 9 (unitElem (H:=Unit)) b n D∧∀ s:Bs,s.length≤maxLen→Maps.has D (.string s)=f s
theorem zMn(w:World):(zeroValue 107).run Tryz.prog w = .ok (.agg #[.int .i64 0,.int .i64 0]) w:=by kernel_rfl
theorem zUn(w:World):(zeroValue 220).run Tryz.prog w = .ok (.agg #[]) w:=by kernel_rfl
section
variable {w w' : World} {b n : Nat} {kn : Kn} {f : Bs → Bool} {s : Bs}
theorem MpK.lt(h:MpK w b n kn):b < w.heap.size:=by obtain ⟨D,h1,_⟩:=h.ex;exact h1.lt
theorem MpS.lt(h:MpS w b n f):b < w.heap.size:=by obtain ⟨D,h1⟩:=h.ex;exact h1.1.lt
theorem own_heap{R:Value→Option (DataW Unit×List MemPlace)}{D:DataW Unit}(h:w.ownsMap Tryz.prog 9 R b n D)(e:w'.heap[b]?=w.heap[b]?):w'.ownsMap Tryz.prog 9 R b n D:=by
 obtain ⟨es,clock,hb,h2⟩:=h;exact ⟨es,clock,e.trans hb,h2⟩
theorem MpK.heap(h:MpK w b n kn)(e:w'.heap[b]?=w.heap[b]?):MpK w' b n kn:=by
 obtain ⟨D,h1,h2⟩:=h.ex;exact ⟨⟨D,own_heap h1 e,h2⟩,h.sorts⟩
theorem MpS.heap(h:MpS w b n f)(e:w'.heap[b]?=w.heap[b]?):MpS w' b n f:=by
 obtain ⟨D,h1,h2⟩:=h.ex;exact ⟨⟨D,own_heap h1 e,h2⟩⟩
theorem MpK.upd{X:Nat→Prop}(h:MpK w b n kn)(hu:Upd X w w')(hx:¬ X b):MpK w' b n kn:=h.heap (hu.block b h.lt hx)
theorem MpS.upd{X:Nat→Prop}(h:MpS w b n f)(hu:Upd X w w')(hx:¬ X b):MpS w' b n f:=h.heap (hu.block b h.lt hx)
theorem MpK.mono(h:MpK w b n kn){m:Nat}(hm:n≤m):MpK w b m kn:=by
 obtain ⟨D,h1,h2⟩:=h.ex;exact ⟨⟨D,h1.mono hm,h2⟩,h.sorts⟩
theorem MpS.mono(h:MpS w b n f){m:Nat}(hm:n≤m):MpS w b m f:=by
 obtain ⟨D,h1,h2⟩:=h.ex;exact ⟨⟨D,h1.mono hm,h2⟩⟩
def kAt(kn:Kn)(s:Bs):Nat×Nat:=(kn s).getD (0,0)
theorem MpK.val(h:MpK w b n kn)(hs:s.length≤maxLen){D:DataW Unit}(hD:∀ s:Bs,s.length≤maxLen→Maps.has D (.string s)=(kn s).isSome∧∀ m,kn s=some m→∀ z,D.atKey (.string s) z=mD m){v:Value}{ps:List MemPlace}
  (hv:meanR v=some (D.atKey (.string s) (mD (0,0)),ps)):v = .agg #[.int .i64 ((kAt kn s).1:Int),.int .i64 ((kAt kn s).2:Int)]:=by
 obtain ⟨h1,h2⟩:=hD s hs;unfold kAt;cases hk:kn s with
 | none=>
  rw [hk] at h1;rw [Maps.atKey_of_not_has h1] at hv;exact meanR_inv hv
 | some m=>
  rw [h2 m hk] at hv;exact meanR_inv hv
theorem MpK.look(h:MpK w b n kn)(hs:s.length≤maxLen):(Instr.lookup 108 (.map (some b)) (.string ⟨s.toArray⟩) true).run Tryz.prog w = .ok (.tuple #[.agg #[.int .i64 ((kAt kn s).1:Int),.int .i64 ((kAt kn s).2:Int)],.bool (kn s).isSome]) w:=by
 obtain ⟨D,h1,h2⟩:=h.ex;obtain ⟨v,ps,hr,hv⟩:=h1.look_ok law Tryz.underlying108 (zMn w) (zd:=mD (0,0)) (meanR_mk 0 0) (key_of hs);rw [hr,h.val hs h2 hv,(h2 s hs).1]
theorem MpK.look1(h:MpK w b n kn)(hs:s.length≤maxLen):(Instr.lookup 108 (.map (some b)) (.string ⟨s.toArray⟩) false).run Tryz.prog w = .ok (.agg #[.int .i64 ((kAt kn s).1:Int),.int .i64 ((kAt kn s).2:Int)]) w:=by
 obtain ⟨D,h1,h2⟩:=h.ex;obtain ⟨v,ps,hr,hv⟩:=h1.lookup law Tryz.underlying108 (zMn w) (zd:=mD (0,0)) (meanR_mk 0 0) (key_of hs);rw [hr,h.val hs h2 hv]
theorem MpS.look(h:MpS w b n f)(hs:s.length≤maxLen):(Instr.lookup 110 (.map (some b)) (.string ⟨s.toArray⟩) true).run Tryz.prog w = .ok (.tuple #[.agg #[],.bool (f s)]) w:=by
 obtain ⟨D,h1,h2⟩:=h.ex;obtain ⟨v,ps,hr,hv⟩:=h1.look_ok law Tryz.underlying110 (zUn w) (zd:=.agg []) unitElem_mk (key_of hs);obtain ⟨rfl,_⟩:=unitElem_inv hv;rw [hr,h2 s hs]
theorem turned_upd{X:Nat→Prop}(h:w.mapTurned w' b)(hx:X b):Upd X w w':=(Upd.refl X w).grown h.grown fun k hk _=>by cases hk;exact hx
theorem MpK.put(h:MpK w b n kn)(hs:s.length≤maxLen)(hn:n < maxLen)(m:Nat×Nat)(hm:m.1≤3)(hm2:m.2≤maxLen) :
  ∃ w',(Instr.mapUpdate 108 (.map (some b)) (.string ⟨s.toArray⟩) (.agg #[.int .i64 (m.1:Int),.int .i64 (m.2:Int)])).run Tryz.prog w = .ok () w'∧MpK w' b (n+1) (kn.put s m)∧w.mapTurned w' b:=by
 obtain ⟨D,h1,h2⟩:=h.ex;obtain ⟨w',hr,h3,h4⟩:=h1.store law Tryz.underlying108 hn (key_of hs) (d:=mD m) (meanR_mk _ _);refine ⟨w',hr,⟨⟨_,h3,fun t ht=>?_⟩,fun t m' ht=>?_⟩,h4⟩
 ·unfold Kn.put;by_cases e:t=s
  ·subst e;rw [if_pos rfl];refine ⟨Maps.has_put_same h1.isMap (isKeyS _) _,fun m' hm' z=>?_⟩;cases hm';exact Maps.atKey_put_same h1.isMap (isKeyS _) _ _
  ·rw [if_neg e];refine ⟨(Maps.has_put_other (key_ne e) _).trans (h2 t ht).1,fun m' hm' z=>(Maps.atKey_put_other (key_ne e) _ _).trans ((h2 t ht).2 m' hm' z)⟩
 ·unfold Kn.put at ht;by_cases e:t=s
  ·rw [if_pos e] at ht;cases ht;exact ⟨hm,hm2⟩
  ·rw [if_neg e] at ht;exact h.sorts t m' ht
theorem MpK.del(h:MpK w b n kn)(hs:s.length≤maxLen)(ty:TypeId) :
  ∃ w',(Builtin.delete_ #[108,9] ty #[.map (some b),.string ⟨s.toArray⟩]).run Tryz.prog w = .ok (.tuple #[]) w'∧MpK w' b n (kn.dels [s])∧w.mapTurned w' b:=by
 obtain ⟨D,h1,h2⟩:=h.ex;obtain ⟨w',hr,h3,h4⟩:=h1.drop law Tryz.underlying108 (key_of hs) ty;refine ⟨w',hr,⟨⟨_,h3,fun t ht=>?_⟩,fun t m' ht=>?_⟩,h4⟩
 ·unfold Kn.dels;by_cases e:t=s
  ·subst e;rw [if_pos (by simp)];exact ⟨Maps.has_del_same,fun m' hm'=>by cases hm'⟩
  ·rw [if_neg (by simpa using e)];exact ⟨(Maps.has_del_other (key_ne e)).trans (h2 t ht).1,fun m' hm' z=>(Maps.atKey_del_other (key_ne e) _).trans ((h2 t ht).2 m' hm' z)⟩
 ·unfold Kn.dels at ht;by_cases e:t∈[s]
  ·rw [if_pos e] at ht;cases ht
  ·rw [if_neg e] at ht;exact h.sorts t m' ht
theorem MpS.put(h:MpS w b n f)(hs:s.length≤maxLen)(hn:n < maxLen) :
  ∃ w',(Instr.mapUpdate 110 (.map (some b)) (.string ⟨s.toArray⟩) (.agg #[])).run Tryz.prog w = .ok () w'∧MpS w' b (n+1) (fun t=>f t || t==s)∧w.mapTurned w' b:=by
 obtain ⟨D,h1,h2⟩:=h.ex;obtain ⟨w',hr,h3,h4⟩:=h1.store law Tryz.underlying110 hn (key_of hs) (d:=.agg []) unitElem_mk;refine ⟨w',hr,⟨⟨_,h3,fun t ht=>?_⟩⟩,h4⟩;by_cases e:t=s
 ·subst e;rw [Maps.has_put_same h1.isMap (isKeyS _)];simp
 ·rw [Maps.has_put_other (key_ne e),h2 t ht];have:(t==s)=false:=by simpa using e
  rw [this,Bool.or_false]
theorem MpK.made(w:World):MpK (w.alloc (.map #[] 0)) w.heap.size 0 (fun _=>none):=
 ⟨⟨_,World.ownsMap_made w _ _ _,fun s _=>⟨rfl,fun m hm=>by cases hm⟩⟩,fun s m hm=>by cases hm⟩
theorem MpS.made(w:World):MpS (w.alloc (.map #[] 0)) w.heap.size 0 (fun _=>false):=⟨⟨_,World.ownsMap_made w _ _ _,fun s _=>rfl⟩⟩
end
end Go.Proofs.YtdhoemlomojfaaaGreatDoor.Nm
namespace Go.Proofs.YtdhoemlomojfaaaGreatDoor.Fl
open Go Go.ChangeShapes Go.WideShapes Go.ChangeAt Go.RowKit Lx Args Pa Sh Go.Proofs.YtdhoemlomojfaaaGreatDoor.Nm
structure Cod(α:Type) where
 enc:α→Value
 dat:α→DataW Unit
 rd:Value→Option (DataW Unit×List MemPlace)
 rd_enc:∀ a,rd (enc a)=some (dat a,[])
 inv:∀ v a ps,rd v=some (dat a,ps)→v=enc a
def MpG{α:Type}(c:Cod α)(w:World)(b n:Nat)(kn:Bs→Option α):Prop:=
 ∃ D:DataW Unit,w.ownsMap Tryz.prog 9 c.rd b n D∧∀ s:Bs,s.length≤maxLen→Maps.has D (.string s)=(kn s).isSome∧∀ m,kn s=some m→∀ z,D.atKey (.string s) z=c.dat m
section
variable {α : Type} {c : Cod α} {w w' : World} {b n : Nat} {kn : Bs → Option α} {s : Bs} {T E : TypeId}
theorem MpG.lt(h:MpG c w b n kn):b < w.heap.size:=by obtain ⟨D,h1,_⟩:=h;exact h1.lt
theorem MpG.heap(h:MpG c w b n kn)(e:w'.heap[b]?=w.heap[b]?):MpG c w' b n kn:=by
 obtain ⟨D,h1,h2⟩:=h;exact ⟨D,own_heap h1 e,h2⟩
theorem MpG.upd{X:Nat→Prop}(h:MpG c w b n kn)(hu:Upd X w w')(hx:¬ X b):MpG c w' b n kn:=h.heap (hu.block b h.lt hx)
theorem MpG.mono(h:MpG c w b n kn){m:Nat}(hm:n≤m):MpG c w b m kn:=by
 obtain ⟨D,h1,h2⟩:=h;exact ⟨D,h1.mono hm,h2⟩
theorem MpG.val{z0:α}(hs:s.length≤maxLen){D:DataW Unit}(hD:∀ s:Bs,s.length≤maxLen→Maps.has D (.string s)=(kn s).isSome∧∀ m,kn s=some m→∀ z,D.atKey (.string s) z=c.dat m){v:Value}{ps:List MemPlace}
  (hv:c.rd v=some (D.atKey (.string s) (c.dat z0),ps)):v=c.enc ((kn s).getD z0):=by
 obtain ⟨h1,h2⟩:=hD s hs;cases hk:kn s with
 | none=>
  rw [hk] at h1;rw [Maps.atKey_of_not_has h1] at hv;exact c.inv _ _ _ hv
 | some m=>
  rw [h2 m hk] at hv;exact c.inv _ _ _ hv
theorem MpG.look(h:MpG c w b n kn)(hs:s.length≤maxLen)(hT:Tryz.prog.underlying T=some (.map 9 E)){z0:α}(hz:(zeroValue E).run Tryz.prog w = .ok (c.enc z0) w) :
  (Instr.lookup T (.map (some b)) (.string ⟨s.toArray⟩) true).run Tryz.prog w = .ok (.tuple #[c.enc ((kn s).getD z0),.bool (kn s).isSome]) w:=by
 obtain ⟨D,h1,h2⟩:=h;obtain ⟨v,ps,hr,hv⟩:=h1.look_ok law hT hz (zd:=c.dat z0) (c.rd_enc z0) (key_of hs);rw [hr,MpG.val hs h2 hv,(h2 s hs).1]
theorem MpG.look1(h:MpG c w b n kn)(hs:s.length≤maxLen)(hT:Tryz.prog.underlying T=some (.map 9 E)){z0:α}(hz:(zeroValue E).run Tryz.prog w = .ok (c.enc z0) w) :
  (Instr.lookup T (.map (some b)) (.string ⟨s.toArray⟩) false).run Tryz.prog w = .ok (c.enc ((kn s).getD z0)) w:=by
 obtain ⟨D,h1,h2⟩:=h;obtain ⟨v,ps,hr,hv⟩:=h1.lookup law hT hz (zd:=c.dat z0) (c.rd_enc z0) (key_of hs);rw [hr,MpG.val hs h2 hv]
theorem MpG.put(h:MpG c w b n kn)(hs:s.length≤maxLen)(hn:n < maxLen)(hT:Tryz.prog.underlying T=some (.map 9 E))(m:α) :
  ∃ w',(Instr.mapUpdate T (.map (some b)) (.string ⟨s.toArray⟩) (c.enc m)).run Tryz.prog w = .ok () w'∧MpG c w' b (n+1) (fun t=>if t=s then some m else kn t)∧w.mapTurned w' b:=by
 obtain ⟨D,h1,h2⟩:=h;obtain ⟨w',hr,h3,h4⟩:=h1.store law hT hn (key_of hs) (d:=c.dat m) (c.rd_enc m);refine ⟨w',hr,⟨_,h3,fun t ht=>?_⟩,h4⟩;dsimp only;by_cases e:t=s
 ·subst e;rw [if_pos rfl];refine ⟨Maps.has_put_same h1.isMap (isKeyS _) _,fun m' hm' z=>?_⟩;cases hm';exact Maps.atKey_put_same h1.isMap (isKeyS _) _ _
 ·rw [if_neg e];refine ⟨(Maps.has_put_other (key_ne e) _).trans (h2 t ht).1,fun m' hm' z=>?_⟩;exact (Maps.atKey_put_other (key_ne e) _ _).trans ((h2 t ht).2 m' hm' z)
theorem MpG.del(h:MpG c w b n kn)(hs:s.length≤maxLen)(hT:Tryz.prog.underlying T=some (.map 9 E))(ty:TypeId) :
  ∃ w',(Builtin.delete_ #[T,9] ty #[.map (some b),.string ⟨s.toArray⟩]).run Tryz.prog w = .ok (.tuple #[]) w'∧MpG c w' b n (fun t=>if t=s then none else kn t)∧w.mapTurned w' b:=by
 obtain ⟨D,h1,h2⟩:=h;obtain ⟨w',hr,h3,h4⟩:=h1.drop law hT (key_of hs) ty;refine ⟨w',hr,⟨_,h3,fun t ht=>?_⟩,h4⟩;dsimp only;by_cases e:t=s
 ·subst e;rw [if_pos rfl];refine ⟨Maps.has_del_same,fun m' hm'=>?_⟩;cases hm'
 ·rw [if_neg e];refine ⟨(Maps.has_del_other (key_ne e)).trans (h2 t ht).1,fun m' hm' z=>?_⟩;exact (Maps.atKey_del_other (key_ne e) _).trans ((h2 t ht).2 m' hm' z)
theorem MpG.made(c:Cod α)(w:World):MpG c (w.alloc (.map #[] 0)) w.heap.size 0 (fun _=>none):=
 ⟨_,World.ownsMap_made w _ _ _,fun s _=>⟨rfl,fun m hm=>by cases hm⟩⟩
end
theorem key_inv{key:Value}{kl:Lit}(h:keyOf Tryz.prog 9 key=some kl):∃ s:Bs,key = .string ⟨s.toArray⟩∧kl = .string s∧s.length≤maxLen:=by
 cases key <;> simp [keyOf,uStr,mapKey] at h;rename_i s;obtain ⟨h1,h2⟩:=h;exact ⟨s.data.toList,by simp,h2.symm,(by
  have:s.data.toList.length=s.size:=by simp
  rw [this];exact h1)⟩
def Tells{α:Type}(c:Cod α)(D:DataW Unit)(kn:Bs→Option α):Prop:=∀ s:Bs,s.length≤maxLen→Maps.has D (.string s)=(kn s).isSome∧∀ m,kn s=some m→∀ z,D.atKey (.string s) z=c.dat m
def MpR{α:Type}(c:Cod α)(w:World)(b r n:Nat)(kn:Bs→Option α)(left:Bs→Bool)(cnt:Nat):Prop:=
 ∃ (D:DataW Unit) (l:Lit→Bool),w.ranges Tryz.prog 9 c.rd b r n D l cnt∧Tells c D kn∧∀ s:Bs,s.length≤maxLen→l (.string s)=left s
section
variable {α : Type} {c : Cod α} {w : World} {b r n : Nat} {kn : Bs → Option α} {left : Bs → Bool} {cnt : Nat} {T E : TypeId}
theorem same_str(s t:Bs):(Lit.string t).sameKey (.string s)=(t==s):=by
 rw [Bool.eq_iff_iff,WideAt.sameKey_iff (isKeyS s)];simp
theorem MpG.range(h:MpG c w b n kn)(hT:Tryz.prog.underlying T=some (.map 9 E)) :
  ∃ w' cnt,(Instr.range T (.map (some b))).run Tryz.prog w = .ok (.pointer (some ⟨w.heap.size,0,none⟩)) w'∧MpR c w' b w.heap.size n kn (fun s=>(kn s).isSome) cnt∧w.grownBy w' none∧w'.heap.size=w.heap.size+1:=by
 obtain ⟨D,h1,h2⟩:=h;obtain ⟨w',r1,r2,r3,r4⟩:=h1.range law hT;exact ⟨w',_,r1,⟨D,_,r2,h2,fun s hs=>(h2 s hs).1⟩,r3,r4⟩
theorem MpR.owns(h:MpR c w b r n kn left cnt):MpG c w b n kn:=by
 obtain ⟨D,l,h1,h2,_⟩:=h;exact ⟨D,h1.owns,h2⟩
theorem MpR.next(h:MpR c w b r n kn left cnt)(ty:TypeId) :
  (cnt = 0∧(∀ s:Bs,s.length≤maxLen→left s=false)∧(Instr.next (.pointer (some ⟨r,0,none⟩)) false ty).run Tryz.prog w = .ok (.tuple #[.bool false]) w) ∨
  ∃ (s:Bs) (m:α) (w':World) (cnt':Nat),s.length≤maxLen∧left s=true∧kn s=some m∧(Instr.next (.pointer (some ⟨r,0,none⟩)) false ty).run Tryz.prog w = .ok (.tuple #[.bool true,.string ⟨s.toArray⟩,c.enc m]) w' ∧
   MpR c w' b r n kn (fun t=>left t && !(t==s)) cnt'∧cnt' < cnt∧w.grownBy w' (some r)∧w'.heap.size=w.heap.size∧(Instr.entry (.pointer (some ⟨r,0,none⟩))).run Tryz.prog w' = .ok (.tuple #[.string ⟨s.toArray⟩,c.enc m]) w':=by
 obtain ⟨D,l,h1,h2,h3⟩:=h;rcases h1.next law ty with ⟨h0,hl,hrun⟩ | ⟨key,v,kl,y,w',cnt',hkey,hlk,hv,hat,hrun,hrg,hlt,hgr,hsz,hen⟩
 ·exact .inl ⟨h0,fun s hs=>by rw [←h3 s hs];exact hl _,hrun⟩
 ·obtain ⟨s,rfl,rfl,hs⟩:=key_inv hkey;have hhas:Maps.has D (.string s)=true:=by
   cases hh:Maps.has D (.string s) with
   | true=>rfl
   | false=>
    have e1:=hat (.agg []);have e2:=hat (.agg [.agg []]);rw [Maps.atKey_of_not_has hh] at e1 e2;rw [←e2] at e1;cases e1
  have hk:=(h2 s hs).1;rw [hhas] at hk;obtain ⟨m,hm⟩:=Option.isSome_iff_exists.1 hk.symm;have hd:=(h2 s hs).2 m hm (.agg []);rw [hat] at hd;obtain ⟨d,ps⟩:=y;have hd':d=c.dat m:=hd;subst hd';have hve:=c.inv v m ps hv;subst hve;refine .inr ⟨s,m,w',cnt',hs,by rw [←h3 s hs];exact hlk,hm,hrun,⟨D,_,hrg,h2,fun t ht=>?_⟩,hlt,hgr,hsz,hen⟩;show (l (.string t) && !(Lit.string t).sameKey (.string s))=_;rw [h3 t ht,same_str]
theorem MpR.drop(h:MpR c w b r n kn left cnt)(hT:Tryz.prog.underlying T=some (.map 9 E)){s:Bs}(hs:s.length≤maxLen)(ty:TypeId) :
  ∃ w' cnt',(Builtin.delete_ #[T,9] ty #[.map (some b),.string ⟨s.toArray⟩]).run Tryz.prog w = .ok (.tuple #[]) w'∧MpR c w' b r n (fun t=>if t=s then none else kn t) (fun t=>left t && !(t==s)) cnt'∧cnt'≤cnt∧w.mapTurned w' b:=by
 obtain ⟨D,l,h1,h2,h3⟩:=h;obtain ⟨w',cnt',r1,r2,r3,r4⟩:=h1.drop law hT (key_of hs) ty;refine ⟨w',cnt',r1,⟨_,_,r2,fun t ht=>?_,fun t ht=>?_⟩,r3,r4⟩
 ·dsimp only;by_cases e:t=s
  ·subst e;rw [if_pos rfl];exact ⟨Maps.has_del_same,fun m' hm'=>by cases hm'⟩
  ·rw [if_neg e];exact ⟨(Maps.has_del_other (key_ne e)).trans (h2 t ht).1,fun m' hm' z=>(Maps.atKey_del_other (key_ne e) _).trans ((h2 t ht).2 m' hm' z)⟩
 ·show (l (.string t) && !(Lit.string t).sameKey (.string s))=_;rw [h3 t ht,same_str]
end
section
variable {α : Type} {c : Cod α} (w : World) {ops : Array Oper} {rest : List Oper} {o : Oper} {a : Act} {Q : Exit → Act → World → Prop} {b r n : Nat} {kn : Bs → Option α} {left : Bs → Bool} {cnt : Nat} {E : TypeId}
theorem wpList_range_G(hg:o.guard=none)(m:Operand)(T:TypeId)(hop:o.op=Op.range T m)(hT:Tryz.prog.underlying T=some (.map 9 E))(hm:a.eval m = .map (some b))(h:MpG c w b n kn)
  (hK:∀ w' cnt,MpR c w' b w.heap.size n kn (fun s=>(kn s).isSome) cnt→w.grownBy w' none→w'.heap.size=w.heap.size+1→wpList Tryz.prog ops Q rest (a.put o.dst (.pointer (some ⟨w.heap.size,0,none⟩))) w') :
  wpList Tryz.prog ops Q (o :: rest) a w:=by
 refine wpList_plain hg fun K' hK'=>?_
 obtain ⟨w',cnt,hrun,r1,r2,r3⟩:=h.range hT;unfold Oper.wp;simp [execOp,hop,hm,hrun,Result.andThen];exact hK' _ _ (hK w' cnt r1 r2 r3)
theorem wpList_next_G(hg:o.guard=none)(it:Operand)(hop:o.op=Op.next it false)(hit:a.eval it = .pointer (some ⟨r,0,none⟩))(h:MpR c w b r n kn left cnt)
  (hDone:cnt = 0→(∀ s:Bs,s.length≤maxLen→left s=false)→wpList Tryz.prog ops Q rest (a.put o.dst (.tuple #[.bool false])) w)
  (hMore:∀ (s:Bs) (m:α) (w':World) (cnt':Nat),s.length≤maxLen→left s=true→kn s=some m→MpR c w' b r n kn (fun t=>left t && !(t==s)) cnt'→cnt' < cnt→w.grownBy w' (some r)→w'.heap.size=w.heap.size →
   (Instr.entry (.pointer (some ⟨r,0,none⟩))).run Tryz.prog w' = .ok (.tuple #[.string ⟨s.toArray⟩,c.enc m]) w'→wpList Tryz.prog ops Q rest (a.put o.dst (.tuple #[.bool true,.string ⟨s.toArray⟩,c.enc m])) w') :
  wpList Tryz.prog ops Q (o :: rest) a w:=by
 refine wpList_plain hg fun K' hK'=>?_
 unfold Oper.wp;rcases h.next o.type with ⟨h0,hl,hrun⟩ | ⟨s,m,w',cnt',hs,hlk,hm,hrun,hrg,hlt,hgr,hsz,hen⟩
 ·simp [execOp,hop,hit,hrun,Result.andThen];exact hK' _ _ (hDone h0 hl)
 ·simp [execOp,hop,hit,hrun,Result.andThen];exact hK' _ _ (hMore s m w' cnt' hs hlk hm hrg hlt hgr hsz hen)
end
end Go.Proofs.YtdhoemlomojfaaaGreatDoor.Fl
namespace Go.Proofs.YtdhoemlomojfaaaGreatDoor.Lx
open Go Go.ChangeShapes Go.WideShapes Go.ChangeAt Go.RowKit Args
theorem u8_of{c:UInt8}{n:Nat}(h:c.toNat=n):c=UInt8.ofNat n:=by rw [←h];simp
theorem u8_ne{c:UInt8}{n:Nat}(h:c.toNat≠n)(hn:n < 256):c≠UInt8.ofNat n:=fun e=>h (by rw [e];simp;omega)
theorem drop_at(s:ByteArray)(k:Nat)(h:k < s.size):s.data.toList.drop k=s[k] :: s.data.toList.drop (k+1):=by
 have h':k < s.data.toList.length:=by simpa using h
 rw [List.drop_eq_getElem_cons h'];rfl
theorem drop_end(s:ByteArray)(k:Nat)(h:s.size≤k):s.data.toList.drop k=[]:=List.drop_of_length_le (by simpa using h)
def tkC(t:Tk):List Value:=[.int .i64 (t.k:Int),.string ⟨t.s.toArray⟩,.int .i64 (t.at_:Int)]
theorem below_drewN{B:Nat}{w w':World}(h:Below B w w')(n:Nat):Below B w (w'.drewN n):=⟨h.os,h.tape,h.output,h.size,h.block⟩
end Go.Proofs.YtdhoemlomojfaaaGreatDoor.Lx
namespace Go.Proofs.YtdhoemlomojfaaaGreatDoor.Pa
open Lx
def NT.sk:NT→NT
 | .lev n=>.lev n
 | .more n x=>.more n (Pa.sk x)
 | .args l=>.args (skL l)
 | .fin k _ s ps=>.fin k 0 s ps
 | .inner=>.inner
 | .inners l=>.inners (skL l)
 | .stmt=>.stmt
 | .stmts l=>.stmts (skL l)
def Le(o o':OO):Prop:=∀ x,o=some x→o'=some x
theorem le_refl(o:OO):Le o o:=fun _ h=>h
theorem le_if{c:Prop}[Decidable c]{o o' p p':OO}(h1:Le o o')(h2:Le p p'):Le (if c then o else p) (if c then o' else p'):=by
 by_cases h:c
 ·rw [if_pos h,if_pos h];exact h1
 ·rw [if_neg h,if_neg h];exact h2
theorem le_bnd{o o':OO}{f f':List Tr→List Tk→OO}(h:Le o o')(hf:∀ xs r,Le (f xs r) (f' xs r)):Le (bnd o f) (bnd o' f'):=by
 rcases o with _ | ⟨l,r⟩ | ⟨a,e⟩
 ·intro x hx;cases hx
 ·rw [h _ rfl];exact hf l r
 ·rw [h _ rfl];exact le_refl _
theorem le_must{b:Bs}{l:List Tk}{f f':List Tk→OO}(hf:∀ r,Le (f r) (f' r)):Le (must b l f) (must b l f'):=by
 cases l with
 | nil=>exact le_refl _
 | cons t l=>unfold must;exact le_if (hf _) (le_refl _)
theorem le_name{l:List Tk}{f f':Bs→List Tk→OO}(hf:∀ s r,Le (f s r) (f' s r)):Le (nameK l f) (nameK l f'):=by
 cases l with
 | nil=>exact le_refl _
 | cons t l=>unfold nameK;exact le_if (hf _ _) (le_refl _)
theorem le_names{f f':List Bs→List Tk→OO}(hf:∀ ps r,Le (f ps r) (f' ps r)):∀ (ps:List Bs) (l:List Tk),Le (namesK ps l f) (namesK ps l f')
 | _,[]=>le_refl _
 | ps,[t]=>by unfold namesK;exact le_if (hf _ _) (le_refl _)
 | ps,t :: u :: r=>by unfold namesK;exact le_if (le_if (le_names hf _ r) (hf _ _)) (le_refl _)
theorem pF_mono(num:Bs→Nat×Nat):∀ (f g:Nat),f≤g→∀ (nt:NT) (d:Nat) (l:List Tk),Le (pF num f nt d l) (pF num g nt d l):=by
 intro f
 induction f with
 | zero=>intro g _ nt d l x hx;cases hx
 | succ f ih0=>
  intro g hg nt d l;obtain ⟨g,rfl⟩:∃ x,g=x+1:=⟨g - 1,by omega⟩;have ih:=ih0 g (by omega);clear ih0;cases nt with
  | lev n=>
   unfold pF;refine le_if (le_bnd (ih _ _ _) fun xs r=>ih _ _ _) ?_;cases l with
   | nil=>exact le_refl _
   | cons t r=>
    simp only;refine le_if (le_refl _) (le_if (le_bnd (ih _ _ _) fun xs r=>le_refl _) (le_if (le_refl _) (le_if (le_bnd (ih _ _ _) fun xs r=>le_refl _) (le_name fun s r=>?_))));cases r with
    | nil=>exact le_refl _
    | cons u r=>exact le_if (le_bnd (ih _ _ _) fun xs r=>le_bnd (ih _ _ _) fun ys r=>le_refl _) (le_refl _)
  | more n x=>
   unfold pF;cases l with
   | nil=>exact le_refl _
   | cons t r=>exact le_if (le_bnd (ih _ _ _) fun ys r=>ih _ _ _) (le_refl _)
  | args xs=>
   unfold pF;cases l with
   | nil=>exact le_refl _
   | cons t r=>exact le_if (le_bnd (ih _ _ _) fun ys r=>ih _ _ _) (le_refl _)
  | fin k a s ps=>
   unfold pF;exact le_bnd (ih _ _ _) fun xs r=>le_refl _
  | inner=>
   unfold pF;cases l with
   | nil=>exact le_refl _
   | cons t r=>
    exact le_if (le_refl _) (le_if (le_name fun s r=>le_must fun r=>le_bnd (ih _ _ _) fun xs r=>le_must fun r=>le_bnd (ih _ _ _) fun ys r=>le_must fun r=>le_bnd (ih _ _ _) fun zs r=>le_refl _) (le_name fun s r=>le_must fun r=>ih _ _ _))
  | inners zs=>
   unfold pF;cases l with
   | nil=>exact le_refl _
   | cons t r=>exact le_if (le_refl _) (le_bnd (ih _ _ _) fun xs r=>ih _ _ _)
  | stmt=>
   unfold pF;cases l with
   | nil=>exact le_refl _
   | cons t r=>
    exact le_if (le_refl _) (le_if (le_refl _) (le_if (le_name fun s r=>le_must fun r=>ih _ _ _) (le_if (le_name fun s r=>le_must fun r=>ih _ _ _)
     (le_if (le_name fun s r=>le_must fun r=>le_names (fun ps r=>le_must fun r=>le_must fun r=>ih _ _ _) _ _) (ih _ _ _)))))
  | stmts xs=>
   unfold pF;cases l with
   | nil=>exact le_refl _
   | cons t r=>exact le_if (le_refl _) (le_bnd (ih _ _ _) fun ys r=>ih _ _ _)
theorem pF_one{num:Bs→Nat×Nat}{f g:Nat}{nt:NT}{d:Nat}{l:List Tk}{o o':Out}(h:pF num f nt d l=some o)(h':pF num g nt d l=some o'):o=o':=by
 have h1:=pF_mono num f (max f g) (Nat.le_max_left _ _) nt d l o h;have h2:=pF_mono num g (max f g) (Nat.le_max_right _ _) nt d l o' h';rw [h1] at h2;exact Option.some.inj h2
def Et(l:List Tk):Prop:=∃ u e,l=u ++ [e]∧e.k = 0∧∀ t∈u,t.k≠0
theorem et_nil:¬ Et []:=fun ⟨u,e,h,_⟩=>by cases u <;> cases h
theorem et_tail{t:Tk}{r:List Tk}(h:Et (t :: r))(ht:t.k≠0):Et r:=by
 obtain ⟨u,e,h1,h2,h3⟩:=h;cases u with
 | nil=>simp only [List.nil_append,List.cons.injEq] at h1;rw [h1.1] at ht;exact absurd h2 ht
 | cons x u=>simp only [List.cons_append,List.cons.injEq] at h1;exact ⟨u,e,h1.2,h2,fun t ht=>h3 t (List.mem_cons_of_mem _ ht)⟩
def Gd(l:List Tk):OO→Prop
 | none=>True
 | some (.ok _ r)=>Et r∧r <:+ l
 | some (.bad a e)=>(∃ t∈l,a=t.at_)∧(e = 100∨e = 150)
theorem gd_up{l l':List Tk}{o:OO}(h:Gd l o)(hl:l <:+ l'):Gd l' o:=by
 rcases o with _ | ⟨xs,r⟩ | ⟨a,e⟩
 ·trivial
 ·exact ⟨h.1,h.2.trans hl⟩
 ·obtain ⟨⟨t,ht,ha⟩,he⟩:=h;exact ⟨⟨t,hl.subset ht,ha⟩,he⟩
theorem gd_wrong{l:List Tk}(h:Et l){e:Nat}(he:e = 100∨e = 150):Gd l (wrong l e):=by
 cases l with
 | nil=>exact absurd h et_nil
 | cons t r=>exact ⟨⟨t,List.mem_cons_self ..,rfl⟩,he⟩
theorem gd_ok{l r:List Tk}(xs:List Tr)(h:Et r)(hl:r <:+ l):Gd l (some (.ok xs r)):=⟨h,hl⟩
theorem gd_if{l:List Tk}{c:Prop}[Decidable c]{o p:OO}(h1:c→Gd l o)(h2:¬ c→Gd l p):Gd l (if c then o else p):=by
 by_cases h:c
 ·rw [if_pos h];exact h1 h
 ·rw [if_neg h];exact h2 h
theorem gd_bnd{l:List Tk}{o:OO}{f:List Tr→List Tk→OO}(h:Gd l o)(hf:∀ xs r,Et r→r <:+ l→Gd r (f xs r)):Gd l (bnd o f):=by
 rcases o with _ | ⟨xs,r⟩ | ⟨a,e⟩
 ·trivial
 ·exact gd_up (hf xs r h.1 h.2) h.2
 ·exact h
theorem gd_must{b:Bs}{l:List Tk}{f:List Tk→OO}(h:Et l)(hf:∀ r,Et r→Gd r (f r)):Gd l (must b l f):=by
 cases l with
 | nil=>exact absurd h et_nil
 | cons t r=>
  refine gd_if (fun hb=>gd_up (hf r (et_tail h ?_)) (List.suffix_cons t r)) fun _=>gd_wrong h (.inl rfl)
  unfold isS at hb;simp only [Bool.and_eq_true,decide_eq_true_eq] at hb;omega
theorem gd_name{l:List Tk}{f:Bs→List Tk→OO}(h:Et l)(hf:∀ s r,Et r→Gd r (f s r)):Gd l (nameK l f):=by
 cases l with
 | nil=>exact absurd h et_nil
 | cons t r=>exact gd_if (fun hb=>gd_up (hf t.s r (et_tail h (by omega))) (List.suffix_cons t r)) fun _=>gd_wrong h (.inl rfl)
theorem is_k{b:Bs}{t:Tk}(h:isS b t=true):t.k≠0:=by
 unfold isS at h;simp only [Bool.and_eq_true,decide_eq_true_eq] at h;omega
theorem gd_names{f:List Bs→List Tk→OO}(hf:∀ ps r,Et r→Gd r (f ps r)):∀ (ps:List Bs) (l:List Tk),Et l→Gd l (namesK ps l f)
 | _,[],h=>absurd h et_nil
 | ps,[t],h=>by
  unfold namesK;exact gd_if (fun hb=>absurd (et_tail h (by omega)) et_nil) fun _=>gd_wrong h (.inl rfl)
 | ps,t :: u :: r,h=>by
  unfold namesK;refine gd_if (fun hb=>?_) fun _=>gd_wrong h (.inl rfl)
  have h2:=et_tail h (by omega);exact gd_if (fun hu=>gd_up (gd_names hf _ r (et_tail h2 (is_k hu))) ((List.suffix_cons u r).trans (List.suffix_cons t _))) fun _=>gd_up (hf _ _ h2) (List.suffix_cons t _)
theorem on_k{n:Nat}{t:Tk}(h:onS n t=true):t.k≠0:=by
 unfold onS at h;simp only [Bool.and_eq_true,beq_iff_eq] at h;omega
theorem pF_good(num:Bs→Nat×Nat):∀ (f:Nat) (nt:NT) (d:Nat) (l:List Tk),Et l→Gd l (pF num f nt d l):=by
 intro f
 induction f with
 | zero=>intros;trivial
 | succ f ih=>
  intro nt d l h;have one:∀ {t:Tk} {r:List Tk} {o:OO},Gd r o→Gd (t :: r) o:=fun {t r o} hg=>gd_up hg (List.suffix_cons t r)
  cases l with
  | nil=>exact absurd h et_nil
  | cons t r=>
  cases nt with
  | lev n=>
   unfold pF;refine gd_if (fun _=>gd_bnd (ih _ _ _ h) fun xs r hr _=>ih _ _ _ hr) fun _=>?_
   refine gd_if (fun _=>gd_wrong h (.inr rfl)) fun _=>gd_if (fun hs=>?_) fun _=>gd_if (fun hk=>?_) fun _=>gd_if (fun hs=>?_) fun _=>gd_name h fun s r hr=>?_
   ·have hr:Et r:=et_tail h (by
     rcases Bool.or_eq_true_iff.1 hs with hs | hs <;> exact is_k hs)
    exact one (gd_bnd (ih _ _ _ hr) fun xs r' hr' _=>gd_ok _ hr' (List.suffix_refl _))
   ·refine gd_if (fun _=>gd_ok _ (et_tail h (by omega)) (List.suffix_cons t r)) fun _=>gd_wrong h ?_
    by_cases h4:(num t.s).2 = 4
    ·rw [if_pos h4];exact .inl rfl
    ·rw [if_neg h4];exact .inr rfl
   ·exact one (gd_bnd (ih _ _ _ (et_tail h (is_k hs))) fun xs r' hr' _=>gd_must hr' fun r2 hr2=>gd_ok _ hr2 (List.suffix_refl _))
   ·cases r with
    | nil=>exact absurd hr et_nil
    | cons u r'=>
     refine gd_if (fun hu=>?_) fun _=>gd_ok _ hr (List.suffix_refl _)
     exact one (gd_bnd (ih _ _ _ (et_tail hr (is_k hu))) fun xs r2 hr2 _=>gd_bnd (ih _ _ _ hr2) fun ys r3 hr3 _=>gd_must hr3 fun r4 hr4=>gd_ok _ hr4 (List.suffix_refl _))
  | more n x=>
   unfold pF;exact gd_if (fun hs=>one (gd_bnd (ih _ _ _ (et_tail h (on_k hs))) fun ys r' hr' _=>ih _ _ _ hr')) fun _=>gd_ok _ h (List.suffix_refl _)
  | args xs=>
   unfold pF;exact gd_if (fun hs=>one (gd_bnd (ih _ _ _ (et_tail h (is_k hs))) fun ys r' hr' _=>ih _ _ _ hr')) fun _=>gd_ok _ h (List.suffix_refl _)
  | fin k a s ps=>
   unfold pF;exact gd_bnd (ih _ _ _ h) fun xs r hr _=>gd_must hr fun r' hr'=>gd_ok _ hr' (List.suffix_refl _)
  | inner=>
   unfold pF;exact gd_if (fun _=>gd_wrong h (.inr rfl)) fun _=>gd_if (fun hs=>one (gd_name (et_tail h (is_k hs)) fun s r hr=>gd_must hr fun r hr=>gd_bnd (ih _ _ _ hr) fun xs r hr _=>gd_must hr fun r hr=>gd_bnd (ih _ _ _ hr) fun ys r hr _=>gd_must hr fun r hr=>gd_bnd (ih _ _ _ hr) fun zs r hr _=>gd_ok _ hr (List.suffix_refl _)))
    fun _=>gd_name h fun s r hr=>gd_must hr fun r hr=>ih _ _ _ hr
  | inners zs=>
   unfold pF;exact gd_if (fun hs=>gd_ok _ (et_tail h (is_k hs)) (List.suffix_cons t r)) fun _=>gd_bnd (ih _ _ _ h) fun xs r hr _=>ih _ _ _ hr
  | stmt=>
   unfold pF;refine gd_if (fun hs=>one (gd_names (fun ps r hr=>?_) _ _ (et_tail h (is_k hs)))) fun _=>gd_if (fun hs=>one (gd_names (fun ps r hr=>?_) _ _ (et_tail h (is_k hs)))) fun _=>gd_if (fun hs=>one (gd_name (et_tail h (is_k hs)) fun s r hr=>?_)) fun _=>
    gd_if (fun hs=>one (gd_name (et_tail h (is_k hs)) fun s r hr=>?_)) fun _=>gd_if (fun hs=>one (gd_name (et_tail h (is_k hs)) fun s r hr=>?_)) fun _=>ih _ _ _ h
   ·exact gd_must hr fun r hr=>gd_ok _ hr (List.suffix_refl _)
   ·exact gd_must hr fun r hr=>gd_ok _ hr (List.suffix_refl _)
   ·exact gd_must hr fun r hr=>ih _ _ _ hr
   ·exact gd_must hr fun r hr=>ih _ _ _ hr
   ·refine gd_must hr fun r hr=>gd_names (fun ps r hr=>?_) _ _ hr
    exact gd_must hr fun r hr=>gd_must hr fun r hr=>ih _ _ _ hr
  | stmts xs=>
   unfold pF;exact gd_if (fun _=>gd_ok _ h (List.suffix_refl _)) fun _=>gd_bnd (ih _ _ _ h) fun ys r hr _=>ih _ _ _ hr
def Lo(S:Prop)(e:Tk)(l2:List Tk)(o o':OO):Prop:=∀ ys v,o=some (.ok ys (v ++ [e]))→(S→v≠[])→o'=some (.ok ys (v ++ l2))
section
variable {e : Tk} {l2 : List Tk}
end
end Go.Proofs.YtdhoemlomojfaaaGreatDoor.Pa
