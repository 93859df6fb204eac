/- DERIVED. NmMap, FlMap, FlRange, FlSpec, FlAr. By an AI agent. -/
import Derived.Test.YtcgibpdjfgjldaaGreatDoorT04
import Derived.Maps.OwnSet
import Derived.Maps.Views
import Derived.StringKeys
import Derived.Maps.RangeWalk
set_option linter.unusedVariables false
set_option linter.unusedSimpArgs false
namespace Go.Proofs.YtcgibpdjfgjldaaGreatDoor
namespace Nm
open Go Go.ChangeShapes Go.WideShapes Go.ChangeAt Go.RowKit Lx Args Pa Sh
def meanR:Value->Option (DataW Unit×List MemPlace)
 | .agg cs=>match cs.toList with
  | [.int .i64 a,.int .i64 p]=>some (.agg [.lit (.int .i64 a),.lit (.int .i64 p)],[])
  | _=>none
 | _=>none
def mD(m:Nat×Nat):DataW Unit:=.agg [.lit (.int .i64 (m.1:Int)),.lit (.int .i64 (m.2:Int))]
theorem q3h(a p:Int):meanR (.agg #[.int .i64 a,.int .i64 p])=some (.agg [.lit (.int .i64 a),.lit (.int .i64 p)],[]):=by simp [meanR]
theorem q3K{v:Value}{m:Nat×Nat}{ps:List MemPlace}(h:meanR v=some (mD m,ps)):v = .agg #[.int .i64 (m.1:Int),.int .i64 (m.2:Int)]:=by
 unfold meanR at h;split at h
 ·rename_i cs;split at h
  ·rename_i a p hcs;simp only [Option.some.injEq,Prod.mk.injEq,mD,DataW.agg.injEq,List.cons.injEq,DataW.lit.injEq,Lit.int.injEq,true_and,and_true] at h;obtain ⟨⟨rfl,rfl⟩,_⟩:=h;have:cs=[Value.int .i64 (m.1:Int),.int .i64 (m.2:Int)].toArray:=by rw [<-hcs]
   rw [this]
  ·cases h
 ·cases h
theorem uStr:Tryz.prog.underlying 9=some .string:=V1
theorem law:Maps.Keyed Tryz.prog 9:=Maps.string_keyed uStr
theorem q1q{s:Bs}(hs:s.length<=maxLen):keyOf Tryz.prog 9 (.string ⟨s.toArray⟩)=some (.string s):=by
 have:=WideMaps.keyOf_string_mk (P:=Tryz.prog) (k:=9) uStr (s:=⟨s.toArray⟩) (by simpa [ByteArray.size] using hs);simpa using this
theorem isKeyS(s:Bs):WideAt.IsKeyLit (.string s):=trivial
theorem q1S{s t:Bs}(h:t≠s):(Lit.string t)≠.string s:=fun e=>h Vu
structure MpK(w:World)(b n:Nat)(kn:Kn):Prop where
 ex:∃ D:DataW Unit,w.ownsMap Tryz.prog 9 meanR b n D/\∀ s:Bs,s.length<=maxLen->Maps.has D (.string s)=(kn s).isSome/\∀ m,kn s=some m->∀ z,D.atKey (.string s) z=mD m
 sorts:∀ s m,kn s=some m->m.1<=3/\m.2<=maxLen
structure MpS(w:World)(b n:Nat)(f:Bs->Bool):Prop where
 ex:∃ D:DataW Unit,w.ownsMap Tryz.prog 9 (unitElem (H:=Unit)) b n D/\∀ s:Bs,s.length<=maxLen->Maps.has D (.string s)=f s
theorem zMn(w:World):(zeroValue 104).run Tryz.prog w = .ok (.agg #[.int .i64 0,.int .i64 0]) w:=V1
theorem zUn(w:World):(zeroValue 229).run Tryz.prog w = .ok (.agg #[]) w:=V1
section
variable {w w' : World} {b n : Nat} {kn : Kn} {f : Bs -> Bool} {s : Bs}
theorem MpK.lt(h:MpK w b n kn):b < w.heap.size:=by obtain ⟨D,h1,_⟩:=h.ex;exact h1.lt
theorem MpS.lt(h:MpS w b n f):b < w.heap.size:=by obtain ⟨D,h1⟩:=h.ex;exact h1.1.lt
theorem q3i{R:Value->Option (DataW Unit×List MemPlace)}{D:DataW Unit}(h:w.ownsMap Tryz.prog 9 R b n D)(e:w'.heap[b]?=w.heap[b]?):w'.ownsMap Tryz.prog 9 R b n D:=by
 obtain ⟨es,clock,hb,h2⟩:=h;exact ⟨es,clock,e.trans hb,h2⟩
theorem MpK.heap(h:MpK w b n kn)(e:w'.heap[b]?=w.heap[b]?):MpK w' b n kn:=by
 obtain ⟨D,h1,h2⟩:=h.ex;exact ⟨⟨D,q3i h1 e,h2⟩,h.sorts⟩
theorem MpS.heap(h:MpS w b n f)(e:w'.heap[b]?=w.heap[b]?):MpS w' b n f:=by
 obtain ⟨D,h1,h2⟩:=h.ex;exact ⟨⟨D,q3i h1 e,h2⟩⟩
theorem MpK.upd{X:Nat->Prop}(h:MpK w b n kn)(hu:Upd X w w')(hx:¬ X b):MpK w' b n kn:=h.heap (hu.block b h.lt hx)
theorem MpS.upd{X:Nat->Prop}(h:MpS w b n f)(hu:Upd X w w')(hx:¬ X b):MpS w' b n f:=h.heap (hu.block b h.lt hx)
theorem MpK.mono(h:MpK w b n kn){m:Nat}(hm:n<=m):MpK w b m kn:=by
 obtain ⟨D,h1,h2⟩:=h.ex;exact ⟨⟨D,h1.mono hm,h2⟩,h.sorts⟩
theorem MpS.mono(h:MpS w b n f){m:Nat}(hm:n<=m):MpS w b m f:=by
 obtain ⟨D,h1,h2⟩:=h.ex;exact ⟨⟨D,h1.mono hm,h2⟩⟩
def kAt(kn:Kn)(s:Bs):Nat×Nat:=(kn s).getD (0,0)
theorem MpK.val(h:MpK w b n kn)(hs:s.length<=maxLen){D:DataW Unit}(hD:∀ s:Bs,s.length<=maxLen->Maps.has D (.string s)=(kn s).isSome/\∀ m,kn s=some m->∀ z,D.atKey (.string s) z=mD m){v:Value}{ps:List MemPlace}
  (hv:meanR v=some (D.atKey (.string s) (mD (0,0)),ps)):v = .agg #[.int .i64 ((kAt kn s).1:Int),.int .i64 ((kAt kn s).2:Int)]:=by
 obtain ⟨h1,h2⟩:=hD s hs;unfold kAt;cases hk:kn s with
 | none=>
  rw [hk] at h1;rw [Maps.atKey_of_not_has h1] at hv;exact q3K hv
 | some m=>
  rw [h2 m hk] at hv;exact q3K hv
theorem MpK.look(h:MpK w b n kn)(hs:s.length<=maxLen):(Instr.lookup 105 (.map (some b)) (.string ⟨s.toArray⟩) true).run Tryz.prog w = .ok (.tuple #[.agg #[.int .i64 ((kAt kn s).1:Int),.int .i64 ((kAt kn s).2:Int)],.bool (kn s).isSome]) w:=by
 obtain ⟨D,h1,h2⟩:=h.ex;obtain ⟨v,ps,hr,hv⟩:=h1.look_ok law Tryz.underlying105 (zMn w) (zd:=mD (0,0)) (q3h 0 0) (q1q hs);rw [hr,h.val hs h2 hv,(h2 s hs).1]
theorem MpK.look1(h:MpK w b n kn)(hs:s.length<=maxLen):(Instr.lookup 105 (.map (some b)) (.string ⟨s.toArray⟩) false).run Tryz.prog w = .ok (.agg #[.int .i64 ((kAt kn s).1:Int),.int .i64 ((kAt kn s).2:Int)]) w:=by
 obtain ⟨D,h1,h2⟩:=h.ex;obtain ⟨v,ps,hr,hv⟩:=h1.lookup law Tryz.underlying105 (zMn w) (zd:=mD (0,0)) (q3h 0 0) (q1q hs);rw [hr,h.val hs h2 hv]
theorem MpS.look(h:MpS w b n f)(hs:s.length<=maxLen):(Instr.lookup 107 (.map (some b)) (.string ⟨s.toArray⟩) true).run Tryz.prog w = .ok (.tuple #[.agg #[],.bool (f s)]) w:=by
 obtain ⟨D,h1,h2⟩:=h.ex;obtain ⟨v,ps,hr,hv⟩:=h1.look_ok law Tryz.underlying107 (zUn w) (zd:=.agg []) unitElem_mk (q1q hs);obtain ⟨rfl,_⟩:=unitElem_inv hv;rw [hr,h2 s hs]
theorem q07{X:Nat->Prop}(h:w.mapTurned w' b)(hx:X b):Upd X w w':=(Upd.refl X w).grown h.grown fun k hk _=>by cases hk;exact hx
theorem MpK.put(h:MpK w b n kn)(hs:s.length<=maxLen)(hn:n < maxLen)(m:Nat×Nat)(hm:m.1<=3)(hm2:m.2<=maxLen) :
  ∃ w',(Instr.mapUpdate 105 (.map (some b)) (.string ⟨s.toArray⟩) (.agg #[.int .i64 (m.1:Int),.int .i64 (m.2:Int)])).run Tryz.prog w = .ok () w'/\MpK w' b (n+1) (kn.put s m)/\w.mapTurned w' b:=by
 obtain ⟨D,h1,h2⟩:=h.ex;obtain ⟨w',hr,h3,h4⟩:=h1.store law Tryz.underlying105 hn (q1q hs) (d:=mD m) (q3h _ _);refine ⟨w',hr,⟨⟨_,h3,fun t ht=>?_⟩,fun t m' ht=>?_⟩,h4⟩
 ·unfold Kn.put;by_cases e:t=s
  ·exact V2R
  ·rw [if_neg e];refine ⟨(Maps.has_put_other (q1S e) _).trans (h2 t ht).1,fun m' hm' z=>(Maps.atKey_put_other (q1S e) _ _).trans ((h2 t ht).2 m' hm' z)⟩
 ·unfold Kn.put at ht;by_cases e:t=s
  ·rw [if_pos e] at ht;cases ht;exact ⟨hm,hm2⟩
  ·rw [if_neg e] at ht;exact h.sorts t m' ht
theorem MpK.del(h:MpK w b n kn)(hs:s.length<=maxLen)(ty:TypeId) :
  ∃ w',(Builtin.delete_ #[105,9] ty #[.map (some b),.string ⟨s.toArray⟩]).run Tryz.prog w = .ok (.tuple #[]) w'/\MpK w' b n (kn.dels [s])/\w.mapTurned w' b:=by
 obtain ⟨D,h1,h2⟩:=h.ex;obtain ⟨w',hr,h3,h4⟩:=h1.drop law Tryz.underlying105 (q1q hs) ty;refine ⟨w',hr,⟨⟨_,h3,fun t ht=>?_⟩,fun t m' ht=>?_⟩,h4⟩
 ·unfold Kn.dels;by_cases e:t=s
  ·subst e;rw [if_pos V3];exact ⟨Maps.has_del_same,fun m' hm'=>by cases hm'⟩
  ·rw [if_neg V0A];exact V36
 ·unfold Kn.dels at ht;by_cases e:t∈[s]
  ·rw [if_pos e] at ht;cases ht
  ·rw [if_neg e] at ht;exact h.sorts t m' ht
theorem MpS.put(h:MpS w b n f)(hs:s.length<=maxLen)(hn:n < maxLen) :
  ∃ w',(Instr.mapUpdate 107 (.map (some b)) (.string ⟨s.toArray⟩) (.agg #[])).run Tryz.prog w = .ok () w'/\MpS w' b (n+1) (fun t=>f t || t==s)/\w.mapTurned w' b:=by
 obtain ⟨D,h1,h2⟩:=h.ex;obtain ⟨w',hr,h3,h4⟩:=h1.store law Tryz.underlying107 hn (q1q hs) (d:=.agg []) unitElem_mk;refine ⟨w',hr,⟨⟨_,h3,fun t ht=>?_⟩⟩,h4⟩;by_cases e:t=s
 ·subst e;rw [Maps.has_put_same h1.isMap (isKeyS _)];simp
 ·rw [Maps.has_put_other (q1S e),h2 t ht];have:(t==s)=false:=V0A;rw [this,Bool.or_false]
theorem MpK.made(w:World):MpK (w.alloc (.map #[] 0)) w.heap.size 0 (fun _=>none):=
 ⟨⟨_,World.ownsMap_made w _ _ _,fun s _=>⟨rfl,fun m hm=>by cases hm⟩⟩,fun s m hm=>by cases hm⟩
theorem MpS.made(w:World):MpS (w.alloc (.map #[] 0)) w.heap.size 0 (fun _=>false):=⟨⟨_,World.ownsMap_made w _ _ _,fun s _=>rfl⟩⟩
end
end Nm
namespace Fl
open Go Go.ChangeShapes Go.WideShapes Go.ChangeAt Go.RowKit Lx Args Pa Sh Go.Proofs.YtcgibpdjfgjldaaGreatDoor.Nm
structure Cod(α:Type) where
 enc:α->Value
 dat:α->DataW Unit
 rd:Value->Option (DataW Unit×List MemPlace)
 rd_enc:∀ a,rd (enc a)=some (dat a,[])
 inv:∀ v a ps,rd v=some (dat a,ps)->v=enc a
def MpG{α:Type}(c:Cod α)(w:World)(b n:Nat)(kn:Bs->Option α):Prop:=
 ∃ D:DataW Unit,w.ownsMap Tryz.prog 9 c.rd b n D/\∀ s:Bs,s.length<=maxLen->Maps.has D (.string s)=(kn s).isSome/\∀ m,kn s=some m->∀ z,D.atKey (.string s) z=c.dat m
section
variable {α : Type} {c : Cod α} {w w' : World} {b n : Nat} {kn : Bs -> Option α} {s : Bs} {T E : TypeId}
theorem MpG.lt(h:MpG c w b n kn):b < w.heap.size:=by obtain ⟨D,h1,_⟩:=h;exact h1.lt
theorem MpG.heap(h:MpG c w b n kn)(e:w'.heap[b]?=w.heap[b]?):MpG c w' b n kn:=by
 obtain ⟨D,h1,h2⟩:=h;exact ⟨D,q3i h1 e,h2⟩
theorem MpG.upd{X:Nat->Prop}(h:MpG c w b n kn)(hu:Upd X w w')(hx:¬ X b):MpG c w' b n kn:=h.heap (hu.block b h.lt hx)
theorem MpG.mono(h:MpG c w b n kn){m:Nat}(hm:n<=m):MpG c w b m kn:=by
 obtain ⟨D,h1,h2⟩:=h;exact ⟨D,h1.mono hm,h2⟩
theorem MpG.val{z0:α}(hs:s.length<=maxLen){D:DataW Unit}(hD:∀ s:Bs,s.length<=maxLen->Maps.has D (.string s)=(kn s).isSome/\∀ m,kn s=some m->∀ z,D.atKey (.string s) z=c.dat m){v:Value}{ps:List MemPlace}
  (hv:c.rd v=some (D.atKey (.string s) (c.dat z0),ps)):v=c.enc ((kn s).getD z0):=by
 obtain ⟨h1,h2⟩:=hD s hs;cases hk:kn s with
 | none=>
  rw [hk] at h1;rw [Maps.atKey_of_not_has h1] at hv;exact c.inv _ _ _ hv
 | some m=>
  rw [h2 m hk] at hv;exact c.inv _ _ _ hv
theorem MpG.look(h:MpG c w b n kn)(hs:s.length<=maxLen)(hT:Tryz.prog.underlying T=some (.map 9 E)){z0:α}(hz:(zeroValue E).run Tryz.prog w = .ok (c.enc z0) w) :
  (Instr.lookup T (.map (some b)) (.string ⟨s.toArray⟩) true).run Tryz.prog w = .ok (.tuple #[c.enc ((kn s).getD z0),.bool (kn s).isSome]) w:=by
 obtain ⟨D,h1,h2⟩:=h;obtain ⟨v,ps,hr,hv⟩:=h1.look_ok law hT hz (zd:=c.dat z0) (c.rd_enc z0) (q1q hs);rw [hr,MpG.val hs h2 hv,(h2 s hs).1]
theorem MpG.look1(h:MpG c w b n kn)(hs:s.length<=maxLen)(hT:Tryz.prog.underlying T=some (.map 9 E)){z0:α}(hz:(zeroValue E).run Tryz.prog w = .ok (c.enc z0) w) :
  (Instr.lookup T (.map (some b)) (.string ⟨s.toArray⟩) false).run Tryz.prog w = .ok (c.enc ((kn s).getD z0)) w:=by
 obtain ⟨D,h1,h2⟩:=h;obtain ⟨v,ps,hr,hv⟩:=h1.lookup law hT hz (zd:=c.dat z0) (c.rd_enc z0) (q1q hs);rw [hr,MpG.val hs h2 hv]
theorem MpG.put(h:MpG c w b n kn)(hs:s.length<=maxLen)(hn:n < maxLen)(hT:Tryz.prog.underlying T=some (.map 9 E))(m:α) :
  ∃ w',(Instr.mapUpdate T (.map (some b)) (.string ⟨s.toArray⟩) (c.enc m)).run Tryz.prog w = .ok () w'/\MpG c w' b (n+1) (fun t=>if t=s then some m else kn t)/\w.mapTurned w' b:=by
 obtain ⟨D,h1,h2⟩:=h;obtain ⟨w',hr,h3,h4⟩:=h1.store law hT hn (q1q hs) (d:=c.dat m) (c.rd_enc m);refine ⟨w',hr,⟨_,h3,fun t ht=>?_⟩,h4⟩;dsimp only;by_cases e:t=s
 ·exact V2R
 ·rw [if_neg e];refine ⟨(Maps.has_put_other (q1S e) _).trans (h2 t ht).1,fun m' hm' z=>?_⟩;exact (Maps.atKey_put_other (q1S e) _ _).trans ((h2 t ht).2 m' hm' z)
theorem MpG.del(h:MpG c w b n kn)(hs:s.length<=maxLen)(hT:Tryz.prog.underlying T=some (.map 9 E))(ty:TypeId) :
  ∃ w',(Builtin.delete_ #[T,9] ty #[.map (some b),.string ⟨s.toArray⟩]).run Tryz.prog w = .ok (.tuple #[]) w'/\MpG c w' b n (fun t=>if t=s then none else kn t)/\w.mapTurned w' b:=by
 obtain ⟨D,h1,h2⟩:=h;obtain ⟨w',hr,h3,h4⟩:=h1.drop law hT (q1q hs) ty;refine ⟨w',hr,⟨_,h3,fun t ht=>?_⟩,h4⟩;dsimp only;by_cases e:t=s
 ·subst e;rw [if_pos rfl];refine ⟨Maps.has_del_same,fun m' hm'=>?_⟩;cases hm'
 ·rw [if_neg e];refine ⟨(Maps.has_del_other (q1S e)).trans (h2 t ht).1,fun m' hm' z=>?_⟩;exact (Maps.atKey_del_other (q1S e) _).trans ((h2 t ht).2 m' hm' z)
theorem MpG.made(c:Cod α)(w:World):MpG c (w.alloc (.map #[] 0)) w.heap.size 0 (fun _=>none):=
 ⟨_,World.ownsMap_made w _ _ _,fun s _=>⟨rfl,fun m hm=>by cases hm⟩⟩
end
theorem key_inv{key:Value}{kl:Lit}(h:keyOf Tryz.prog 9 key=some kl):∃ s:Bs,key = .string ⟨s.toArray⟩/\kl = .string s/\s.length<=maxLen:=by
 cases key <;> simp [keyOf,uStr,mapKey] at h;rename_i s;obtain ⟨h1,h2⟩:=h;exact ⟨s.data.toList,V3,h2.symm,(by
  have:s.data.toList.length=s.size:=V3;rw [this];exact h1)⟩
def Tells{α:Type}(c:Cod α)(D:DataW Unit)(kn:Bs->Option α):Prop:=∀ s:Bs,s.length<=maxLen->Maps.has D (.string s)=(kn s).isSome/\∀ m,kn s=some m->∀ z,D.atKey (.string s) z=c.dat m
def MpR{α:Type}(c:Cod α)(w:World)(b r n:Nat)(kn:Bs->Option α)(left:Bs->Bool)(cnt:Nat):Prop:=
 ∃ (D:DataW Unit) (l:Lit->Bool),w.ranges Tryz.prog 9 c.rd b r n D l cnt/\Tells c D kn/\∀ s:Bs,s.length<=maxLen->l (.string s)=left s
section
variable {α : Type} {c : Cod α} {w : World} {b r n : Nat} {kn : Bs -> Option α} {left : Bs -> Bool} {cnt : Nat} {T E : TypeId}
theorem q7w(s t:Bs):(Lit.string t).sameKey (.string s)=(t==s):=by
 rw [Bool.eq_iff_iff,WideAt.sameKey_iff (isKeyS s)];simp
theorem MpG.range(h:MpG c w b n kn)(hT:Tryz.prog.underlying T=some (.map 9 E)) :
  ∃ w' cnt,(Instr.range T (.map (some b))).run Tryz.prog w = .ok (.pointer (some ⟨w.heap.size,0,none⟩)) w'/\MpR c w' b w.heap.size n kn (fun s=>(kn s).isSome) cnt/\w.grownBy w' none/\w'.heap.size=w.heap.size+1:=by
 obtain ⟨D,h1,h2⟩:=h;obtain ⟨w',r1,r2,r3,r4⟩:=h1.range law hT;exact ⟨w',_,r1,⟨D,_,r2,h2,fun s hs=>(h2 s hs).1⟩,r3,r4⟩
theorem MpR.owns(h:MpR c w b r n kn left cnt):MpG c w b n kn:=by
 obtain ⟨D,l,h1,h2,_⟩:=h;exact ⟨D,h1.owns,h2⟩
theorem MpR.next(h:MpR c w b r n kn left cnt)(ty:TypeId) :
  (cnt = 0/\(∀ s:Bs,s.length<=maxLen->left s=false)/\(Instr.next (.pointer (some ⟨r,0,none⟩)) false ty).run Tryz.prog w = .ok (.tuple #[.bool false]) w) \/
  ∃ (s:Bs) (m:α) (w':World) (cnt':Nat),s.length<=maxLen/\left s=true/\kn s=some m/\(Instr.next (.pointer (some ⟨r,0,none⟩)) false ty).run Tryz.prog w = .ok (.tuple #[.bool true,.string ⟨s.toArray⟩,c.enc m]) w' /\
   MpR c w' b r n kn (fun t=>left t && !(t==s)) cnt'/\cnt' < cnt/\w.grownBy w' (some r)/\w'.heap.size=w.heap.size/\(Instr.entry (.pointer (some ⟨r,0,none⟩))).run Tryz.prog w' = .ok (.tuple #[.string ⟨s.toArray⟩,c.enc m]) w':=by
 obtain ⟨D,l,h1,h2,h3⟩:=h;rcases h1.next law ty with ⟨h0,hl,hrun⟩ | ⟨key,v,kl,y,w',cnt',hkey,hlk,hv,hat,hrun,hrg,hlt,hgr,hsz,hen⟩
 ·exact .inl ⟨h0,fun s hs=>by rw [<-h3 s hs];exact hl _,hrun⟩
 ·obtain ⟨s,rfl,rfl,hs⟩:=key_inv hkey;have hhas:Maps.has D (.string s)=true:=by
   cases hh:Maps.has D (.string s) with
   | true=>rfl
   | false=>
    have e1:=hat (.agg []);have e2:=hat (.agg [.agg []]);rw [Maps.atKey_of_not_has hh] at e1 e2;rw [<-e2] at e1;cases e1
  have hk:=(h2 s hs).1;rw [hhas] at hk;obtain ⟨m,hm⟩:=Option.isSome_iff_exists.1 hk.symm;have hd:=(h2 s hs).2 m hm (.agg []);rw [hat] at hd;obtain ⟨d,ps⟩:=y;have hd':d=c.dat m:=hd;subst hd';have hve:=c.inv v m ps hv;subst hve;refine .inr ⟨s,m,w',cnt',hs,by rw [<-h3 s hs];exact hlk,hm,hrun,⟨D,_,hrg,h2,fun t ht=>?_⟩,hlt,hgr,hsz,hen⟩;exact V3T
theorem MpR.drop(h:MpR c w b r n kn left cnt)(hT:Tryz.prog.underlying T=some (.map 9 E)){s:Bs}(hs:s.length<=maxLen)(ty:TypeId) :
  ∃ w' cnt',(Builtin.delete_ #[T,9] ty #[.map (some b),.string ⟨s.toArray⟩]).run Tryz.prog w = .ok (.tuple #[]) w'/\MpR c w' b r n (fun t=>if t=s then none else kn t) (fun t=>left t && !(t==s)) cnt'/\cnt'<=cnt/\w.mapTurned w' b:=by
 obtain ⟨D,l,h1,h2,h3⟩:=h;obtain ⟨w',cnt',r1,r2,r3,r4⟩:=h1.drop law hT (q1q hs) ty;refine ⟨w',cnt',r1,⟨_,_,r2,fun t ht=>?_,fun t ht=>?_⟩,r3,r4⟩
 ·dsimp only;by_cases e:t=s
  ·subst e;rw [if_pos rfl];exact ⟨Maps.has_del_same,fun m' hm'=>by cases hm'⟩
  ·rw [if_neg e];exact V36
 ·exact V3T
end
section
variable {α : Type} {c : Cod α} (w : World) {ops : Array Oper} {rest : List Oper} {o : Oper} {a : Act} {Q : Exit -> Act -> World -> Prop} {b r n : Nat} {kn : Bs -> Option α} {left : Bs -> Bool} {cnt : Nat} {E : TypeId}
theorem q2U(hg:o.guard=none)(m:Operand)(T:TypeId)(hop:o.op=Op.range T m)(hT:Tryz.prog.underlying T=some (.map 9 E))(hm:a.eval m = .map (some b))(h:MpG c w b n kn)
  (hK:∀ w' cnt,MpR c w' b w.heap.size n kn (fun s=>(kn s).isSome) cnt->w.grownBy w' none->w'.heap.size=w.heap.size+1->wpList Tryz.prog ops Q rest (a.put o.dst (.pointer (some ⟨w.heap.size,0,none⟩))) w') :
  wpList Tryz.prog ops Q (o :: rest) a w:=by
 refine wpList_plain hg fun K' hK'=>?_
 obtain ⟨w',cnt,hrun,r1,r2,r3⟩:=h.range hT;unfold Oper.wp;simp [execOp,hop,hm,hrun,Result.andThen];exact hK' _ _ (hK w' cnt r1 r2 r3)
theorem q3j(hg:o.guard=none)(it:Operand)(hop:o.op=Op.next it false)(hit:a.eval it = .pointer (some ⟨r,0,none⟩))(h:MpR c w b r n kn left cnt)
  (hDone:cnt = 0->(∀ s:Bs,s.length<=maxLen->left s=false)->wpList Tryz.prog ops Q rest (a.put o.dst (.tuple #[.bool false])) w)
  (hMore:∀ (s:Bs) (m:α) (w':World) (cnt':Nat),s.length<=maxLen->left s=true->kn s=some m->MpR c w' b r n kn (fun t=>left t && !(t==s)) cnt'->cnt' < cnt->w.grownBy w' (some r)->w'.heap.size=w.heap.size ->
   (Instr.entry (.pointer (some ⟨r,0,none⟩))).run Tryz.prog w' = .ok (.tuple #[.string ⟨s.toArray⟩,c.enc m]) w'->wpList Tryz.prog ops Q rest (a.put o.dst (.tuple #[.bool true,.string ⟨s.toArray⟩,c.enc m])) w') :
  wpList Tryz.prog ops Q (o :: rest) a w:=by
 refine wpList_plain hg fun K' hK'=>?_
 unfold Oper.wp;rcases h.next o.type with ⟨h0,hl,hrun⟩ | ⟨s,m,w',cnt',hs,hlk,hm,hrun,hrg,hlt,hgr,hsz,hen⟩
 ·simp [execOp,hop,hit,hrun,Result.andThen];exact hK' _ _ (hDone h0 hl)
 ·simp [execOp,hop,hit,hrun,Result.andThen];exact hK' _ _ (hMore s m w' cnt' hs hlk hm hrg hlt hgr hsz hen)
end
end Fl
namespace Fl
open Lx Pa Sh Go.Proofs.YtcgibpdjfgjldaaGreatDoor.Nm
structure Wk where
 sec:Bool
 loo:Option (BitVec 32)
abbrev Kw:=Bs->Option Wk
def Kw.put(kn:Kw)(s:Bs)(m:Wk):Kw:=fun t=>if t=s then some m else kn t
def secB(kn:Kw)(s:Bs):Bool:=match kn s with | some m=>m.sec | none=>false
abbrev Lo:=Bs->Option (BitVec 32)
def looB(kn:Kw):Lo:=fun s=>match kn s with | some m=>m.loo | none=>none
inductive Rf(α:Type)
 | ok (x:α)
 | bad (a:Int) (er:Nat)
def bndF{α β:Type}(r:Rf α)(f:α->Rf β):Rf β:=match r with | .ok x=>f x | .bad a e=>.bad a e
def sgU:List Bs:=[[126],[45]]
def sgB:List Bs:=[[43],[45],[38],[124],[94]]
def sgS:List Bs:=[[60,60],[62,62],[60,60,60]]
def fitB(lo:Lo)(k:Int)(s:Bs)(m:Nat):Bool:=
 if k = 0 then true else if k = 1 then (lo s).isSome else if k = 2 then decide (m = 1) && sgU.contains s else if k = 3 then decide (m = 2) && sgB.contains s else if k = 4 then decide (m = 2) && sgS.contains s else false
mutual
def strB(lo:Lo):Tz->Option (Int×Int×Bs)
 | .mk k a s _ _ l=>if fitB lo k s l.length=true then strBs lo l else some (k,a,s)
def strBs(lo:Lo):List Tz->Option (Int×Int×Bs)
 | []=>none
 | x :: l=>match strB lo x with | some e=>some e | none=>strBs lo l
end
abbrev Num:=Lo->Tz->BitVec 32
def badB(kn:Kw)(e:Int×Int×Bs):Nat:=if e.1 = 1/\secB kn e.2.2=true then 130 else 120
def nuB(num:Num)(kn:Kw)(z:Tz):Rf (BitVec 32):=match strB (looB kn) z with | some e=>.bad e.2.1 (badB kn e) | none=>.ok (num (looB kn) z)
def nx(nd:Int):Int:=(nd+1+9223372036854775808) % 18446744073709551616 - 9223372036854775808
def seqB(f:Tz->Int->Rf (Bool×Int)):List Tz->Int->Rf (List Bool×Int)
 | [],nd=>.ok ([],nd)
 | x :: l,nd=>bndF (f x nd) fun q=>bndF (seqB f l q.2) fun r=>.ok (q.1 :: r.1,r.2)
abbrev Fu:=Bs->Option (List Bs×List Tz)
def parB:List Bs->List Bool->Kw
 | p :: ps,b :: bs=>fun t=>match parB ps bs t with | some m=>some m | none=>if t=p then some ⟨b,none⟩ else none
 | _,_=>fun _=>none
abbrev Sub:=Kw->Tz->Int->Rf (Bool×Int)
def calB(fu:Fu)(sub:Sub)(s:Bs)(q:List Bool×Int):Rf (Bool×Int):=
 if s=sel then .ok (q.1.any id,q.2) else match fu s with
  | none=>.ok (false,q.2)
  | some f=>bndF (seqB (sub (parB f.1 q.1)) (f.2.take 1) q.2) fun r=>.ok (r.1.any id,r.2)
section
variable (num : Num) (M : Int) (fu : Fu)
mutual
def exT(deep:Bool)(sub:Sub)(kn:Kw):Tz->Int->Rf (Bool×Int)
 | .mk k a s _ _ l,nd=>
  if k = 5 then (if M < nx nd\/deep=true then .bad a 150 else bndF (seqB (sub kn) l (nx nd)) fun q=>calB fu sub s q)
  else if k = 4 then exS deep sub kn l (nx nd)
  else bndF (exTs deep sub kn l (nx nd)) fun q=>.ok (if k = 1 then secB kn s else if k = 2\/k = 3 then q.1.any id else false,q.2)
def exS(deep:Bool)(sub:Sub)(kn:Kw):List Tz->Int->Rf (Bool×Int)
 | [],nd=>.ok (false,nd)
 | x :: l,nd=>bndF (match l with | []=>.ok 0 | y :: _=>nuB num kn y) fun _=>exT deep sub kn x nd
def exTs(deep:Bool)(sub:Sub)(kn:Kw):List Tz->Int->Rf (List Bool×Int)
 | [],nd=>.ok ([],nd)
 | x :: l,nd=>bndF (exT deep sub kn x nd) fun q=>bndF (exTs deep sub kn l q.2) fun r=>.ok (q.1 :: r.1,r.2)
end
def exC:Nat->Sub
 | 0=>exT num M fu true fun _ _ nd=>.ok (false,nd)
 | c+1=>exT num M fu false (exC c)
end
structure Sf where
 kn:Kw
 rd:Nat
 nd:Int
 ou:List (Bs×Bool×Bool)
def putsB(kn:Kw)(b:Bool):List Bs->Kw
 | []=>kn
 | s :: l=>putsB (kn.put s ⟨b,none⟩) b l
def cutB(kn kn':Kw):Kw:=fun t=>if (kn t).isSome=true then kn' t else none
def roB(R:Nat)(a:Int)(s:Bs)(body:Sf->Rf Sf):Nat->BitVec 32->Sf->Rf Sf
 | 0,_,c=>.ok c
 | n+1,i,c=>if R < c.rd+1 then .bad a 150 else bndF (body { c with rd:=c.rd+1,kn:=c.kn.put s ⟨false,some i⟩ }) fun d=>roB R a s body n (i+1) { d with kn:=cutB c.kn d.kn }
section
variable (num : Num) (M : Int) (D R : Nat) (fu : Fu)
def n0B(kn:Kw):List Tz->Rf (BitVec 32)
 | x :: _=>nuB num kn x
 | []=>.ok 0
def n1B(kn:Kw):List Tz->Rf (BitVec 32)
 | _ :: y :: _=>nuB num kn y
 | _=>.ok 0
def hdB(l:List Tz)(nd:Int)(f:Tz->Int->Rf (Bool×Int)):Rf (Bool×Int):=match l with | []=>.ok (false,nd) | x :: _=>f x nd
mutual
def sfT:Tz->Sf->Rf Sf
 | .mk k a s _ ps l,c=>
  if k = 6\/k = 7 then .ok { c with kn:=putsB c.kn (decide (k = 6)) ps }
  else if k = 10 then bndF (hdB l c.nd (exC num M fu D c.kn)) fun q=>.ok { c with nd:=q.2,kn:=c.kn.put s ⟨q.1,none⟩ }
  else if k = 8\/k = 9 then bndF (hdB l c.nd (exC num M fu D c.kn)) fun q=>if q.1=true/\k = 9 then .bad a 130 else .ok { c with nd:=q.2,ou:=c.ou ++ [(s,q.1,decide (k = 9))] }
  else if k = 11 then
   bndF (n0B num c.kn l) fun i=>bndF (n1B num c.kn l) fun j=>roB R a s (fun d=>sfTs 2 l d) (j.toNat - i.toNat) i c
  else .ok c
def sfTs:Nat->List Tz->Sf->Rf Sf
 | _,[],c=>.ok c
 | 0,x :: l,c=>bndF (sfT x c) fun d=>sfTs 0 l d
 | i+1,_ :: l,c=>sfTs i l c
end
end
mutual
def lnT:Tz->Fu->Fu
 | .mk k _ s _ ps l,fu=>if k = 12 then (fun t=>if t=s then some (ps,l) else fu t) else if k = 11 then lnTs 2 l fu else fu
def lnTs:Nat->List Tz->Fu->Fu
 | _,[],fu=>fu
 | 0,x :: l,fu=>lnTs 0 l (lnT x fu)
 | i+1,_ :: l,fu=>lnTs i l fu
end
def init:Sf:={ kn:=fun _=>none,rd:=0,nd:=0,ou:=[] }
def fuz(z:Tz):Fu:=lnTs 0 (lz z) fun _=>none
def flB(num:Num)(M:Int)(D R:Nat)(z:Tz):Rf Sf:=sfTs num M D R (fuz z) 0 (lz z) init
/-! Without secret inputs. -/
def NoK(kn:Kw):Prop:=∀ s m,kn s=some m->m.sec=false
theorem NoK.sec{kn:Kw}(h:NoK kn)(s:Bs):secB kn s=false:=by
 unfold secB;cases hk:kn s with
 | none=>rfl
 | some m=>exact h s m hk
theorem NoK.put{kn:Kw}(h:NoK kn)(s:Bs){m:Wk}(hm:m.sec=false):NoK (kn.put s m):=fun t m' ht=>by
 unfold Kw.put at ht;by_cases e:t=s
 ·rw [if_pos e] at ht;cases ht;exact hm
 ·rw [if_neg e] at ht;exact h t m' ht
def NoR{α:Type}(P:α->Prop):Rf α->Prop | .ok x=>P x | .bad _ e=>e≠130
theorem NoR.bnd{α β:Type}{P:α->Prop}{Q:β->Prop}{r:Rf α}{f:α->Rf β}(h:NoR P r)(hf:∀ x,P x->NoR Q (f x)):NoR Q (bndF r f):=by
 cases r with
 | ok x=>exact hf x h
 | bad a e=>exact h
def AllNo(bs:List Bool):Prop:=∀ b∈bs,b=false
theorem AllNo.any{bs:List Bool}(h:AllNo bs):bs.any id=false:=by
 rw [List.any_eq_false];intro b hb;rw [h b hb];decide
section
variable {num : Num} {M : Int} {D R : Nat} {fu : Fu}
end
/-! Where more inputs are secret. -/
def LeK(k1 k2:Kw):Prop:=∀ s,(k1 s=none/\k2 s=none)\/∃ m1 m2,k1 s=some m1/\k2 s=some m2/\m1.loo=m2.loo/\(m1.sec=true->m2.sec=true)
theorem LeK.sec{k1 k2:Kw}(h:LeK k1 k2)(s:Bs)(hs:secB k1 s=true):secB k2 s=true:=by
 unfold secB at hs ⊢;rcases h s with ⟨h1,h2⟩ | ⟨m1,m2,h1,h2,_,h4⟩
 ·rw [h1] at hs;cases hs
 ·rw [h1] at hs;rw [h2];exact h4 hs
theorem LeK.put{k1 k2:Kw}(h:LeK k1 k2)(s:Bs){m1 m2:Wk}(hl:m1.loo=m2.loo)(hs:m1.sec=true->m2.sec=true):LeK (k1.put s m1) (k2.put s m2):=fun t=>by
 unfold Kw.put;by_cases e:t=s
 ·rw [if_pos e,if_pos e];exact .inr ⟨m1,m2,rfl,rfl,hl,hs⟩
 ·rw [if_neg e,if_neg e];exact h t
theorem LeK.refl(k:Kw):LeK k k:=fun s=>by
 cases hk:k s with
 | none=>exact .inl ⟨rfl,rfl⟩
 | some m=>exact .inr ⟨m,m,rfl,rfl,rfl,fun h=>h⟩
def LeR{α:Type}(P:α->α->Prop)(r1 r2:Rf α):Prop:=∀ y,r2 = .ok y->∃ x,r1 = .ok x/\P x y
theorem LeR.bnd{α β:Type}{P:α->α->Prop}{Q:β->β->Prop}{r1 r2:Rf α}{f1 f2:α->Rf β}(h:LeR P r1 r2)(hf:∀ x y,P x y->LeR Q (f1 x) (f2 y)):LeR Q (bndF r1 f1) (bndF r2 f2):=fun z hz=>by
 cases r2 with
 | bad a e=>cases hz
 | ok y=>
  obtain ⟨x,hx,hp⟩:=h y rfl;rw [hx];exact hf x y hp z hz
theorem LeR.ok{α:Type}{P:α->α->Prop}{x y:α}(h:P x y):LeR P (.ok x) (.ok y):=fun z hz=>by
 cases hz;exact ⟨x,rfl,h⟩
theorem LeR.bad{α:Type}{P:α->α->Prop}{r:Rf α}{a:Int}{e:Nat}:LeR P r (.bad a e):=fun z hz=>by cases hz
def LeB:List Bool->List Bool->Prop
 | [],[]=>True
 | b :: l,b' :: l'=>(b=true->b'=true)/\LeB l l'
 | _,_=>False
theorem LeB.any:∀ {l l':List Bool},LeB l l'->l.any id=true->l'.any id=true
 | [],[],_,h=>h
 | b :: l,b' :: l',h,ha=>by
  rw [List.any_cons,Bool.or_eq_true] at ha ⊢;rcases ha with ha | ha
  ·exact .inl (h.1 ha)
  ·exact .inr (LeB.any h.2 ha)
 | [],_ :: _,h,_=>h.elim
 | _ :: _,[],h,_=>h.elim
section
variable {num : Num} {M : Int} {D R : Nat} {fu : Fu}
def LeO:List (Bs×Bool×Bool)->List (Bs×Bool×Bool)->Prop
 | [],[]=>True
 | o :: l,o' :: l'=>(o.1=o'.1/\(o.2.1=true->o'.2.1=true))/\LeO l l'
 | _,_=>False
theorem LeO.app:∀ {l l':List (Bs×Bool×Bool)} {o o':Bs×Bool×Bool},LeO l l'->o.1=o'.1->(o.2.1=true->o'.2.1=true)->LeO (l ++ [o]) (l' ++ [o'])
 | [],[],o,o',_,h1,h2=>⟨⟨h1,h2⟩,trivial⟩
 | _ :: l,_ :: l',o,o',h,h1,h2=>⟨h.1,LeO.app h.2 h1 h2⟩
 | [],_ :: _,_,_,h,_,_=>h.elim
 | _ :: _,[],_,_,h,_,_=>h.elim
end
def arB(fu:Fu)(s:Bs)(m:Nat):Bool:=match fu s with | some f=>decide (m<=f.1.length) | none=>false
mutual
def okC(fu:Fu):Tz->Prop
 | .mk k _ s _ _ l=>(k = 5->s≠sel->arB fu s l.length=true)/\okCs fu l
def okCs(fu:Fu):List Tz->Prop
 | []=>True
 | x :: l=>okC fu x/\okCs fu l
end
theorem q3L{fu:Fu}:∀ (i:Nat) {l:List Tz},okCs fu l->okCs fu (l.take i)
 | 0,l,h=>by simp [okCs]
 | i+1,[],h=>by simp [okCs]
 | i+1,x :: l,h=>by
  unfold okCs at h;rw [List.take_succ_cons];unfold okCs;exact ⟨h.1,q3L i h.2⟩
theorem q4w{fu:Fu}:∀ {l:List Tz},okCs fu l->∀ {i:Nat} {x:Tz},l[i]?=some x->okC fu x
 | [],_,i,x,h=>Ve
 | y :: l,h,0,x,hx=>by
  have:y=x:=Vh;subst this;unfold okCs at h;exact h.1
 | y :: l,h,i+1,x,hx=>by
  unfold okCs at h;exact q4w h.2 Vh
theorem q3M{fu:Fu}{k a:Int}{s:Bs}{n:Nat}{ps:List Bs}{l:List Tz}(h:okC fu (.mk k a s n ps l)):(k = 5->s≠sel->arB fu s l.length=true)/\okCs fu l:=by unfold okC at h;exact h
mutual
def okS(fu:Fu):Tz->Prop
 | .mk k _ _ _ _ l=>(k = 12\/k = 10\/k = 8\/k = 9->okCs fu (l.take 1))/\(k = 11->okSs fu 2 l)
def okSs(fu:Fu):Nat->List Tz->Prop
 | _,[]=>True
 | 0,x :: l=>okS fu x/\okSs fu 0 l
 | i+1,_ :: l=>okSs fu i l
end
theorem q3N{fu:Fu}:∀ (i:Nat) {l:List Tz},okSs fu i l->okSs fu 0 (l.drop i)
 | 0,l,h=>h
 | i+1,[],h=>by simp [okSs]
 | i+1,x :: l,h=>by unfold okSs at h;rw [List.drop_succ_cons];exact q3N i h
theorem q5X{fu:Fu}:∀ {l:List Tz},okSs fu 0 l->∀ {i:Nat} {x:Tz},l[i]?=some x->okS fu x
 | [],_,i,x,h=>Ve
 | y :: l,h,0,x,hx=>by
  have:y=x:=Vh;subst this;unfold okSs at h;exact h.1
 | y :: l,h,i+1,x,hx=>by
  unfold okSs at h;exact q5X h.2 Vh
theorem q3O{fu:Fu}{k a:Int}{s:Bs}{n:Nat}{ps:List Bs}{l:List Tz}(h:okS fu (.mk k a s n ps l)):(k = 12\/k = 10\/k = 8\/k = 9->okCs fu (l.take 1))/\(k = 11->okSs fu 2 l):=by unfold okS at h;exact h
def Jf(kn:Kn)(fu:Fu):Prop:=∀ s p,s≠sel->kn s=some (1,p)->∃ f,fu s=some f/\f.1.length=p
def Kf(kn:Kn)(fu fu':Fu):Prop:=∀ s p,kn s=some (1,p)->fu' s=fu s
theorem Jf.put{kn:Kn}{fu:Fu}(h:Jf kn fu){s:Bs}{m:Nat×Nat}(hm:m.1≠1):Jf (kn.put s m) fu:=fun t p ht hk=>by
 unfold Kn.put at hk;by_cases e:t=s
 ·rw [if_pos e] at hk;cases hk;exact absurd rfl hm
 ·rw [if_neg e] at hk;exact h t p ht hk
theorem Jf.in_{a:Int}{fu:Fu}:∀ {ps:List Bs} {c d:St},inB a ps c = .ok d->Jf c.kn fu->Jf d.kn fu
 | [],c,d,h,hj=>by unfold inB at h;cases h;exact hj
 | s :: l,c,d,h,hj=>by
  unfold inB at h;by_cases hb:namedB c.kn s=true
  ·exact VY
  ·rw [if_neg hb] at h;exact Jf.in_ h (show Jf (c.kn.put s (0,0)) fu from hj.put V2)
theorem Jf.dels{kn:Kn}{fu:Fu}(h:Jf kn fu)(l:List Bs):Jf (kn.dels l) fu:=fun t p ht hk=>by
 unfold Kn.dels at hk;by_cases e:t∈l
 ·rw [if_pos e] at hk;cases hk
 ·rw [if_neg e] at hk;exact h t p ht hk
theorem Kf.refl(kn:Kn)(fu:Fu):Kf kn fu fu:=fun _ _ _=>rfl
theorem Kf.trans{c d:St}{f1 f2 f3:Fu}(h:Kf c.kn f1 f2)(he:Ext c d)(h':Kf d.kn f2 f3):Kf c.kn f1 f3:=fun s p hs=>(h' s p (he.kn s _ hs)).trans (h s p hs)
mutual
theorem ln_ok:∀ {z:Tz} {c d:St} {fu:Fu},stB z c = .ok d->Sorts c.kn->Jf c.kn fu->Jf d.kn (lnT z fu)/\Kf c.kn fu (lnT z fu)
 | .mk k a s n ps l,c,d,fu,h,hs,hj=>by
  unfold stB at h;unfold lnT;by_cases h6:k = 6
  ·rw [if_pos h6] at h;exact V3d
  rw [if_neg h6] at h;by_cases h7:k = 7
  ·rw [if_pos h7] at h;exact V3d
  rw [if_neg h7] at h;by_cases h12:k = 12
  ·rw [if_pos h12] at h;rw [if_pos h12];by_cases hb:namedB c.kn s=true
   ·exact VY
   rw [if_neg hb] at h;by_cases hp:paB c.kn s [] ps=false
   ·rw [if_pos hp] at h;cases h
   rw [if_neg hp] at h;obtain ⟨_,h2⟩:=q1l h;cases h2;have hn:=q14 hb;refine ⟨fun t p ht hk=>?_,fun t p hk=>?_⟩
   ·have hk':(if t=s then some (1,ps.length) else c.kn t)=some (1,p):=hk;dsimp only;by_cases e:t=s
    ·rw [if_pos e] at hk' ⊢;cases hk';exact ⟨_,rfl,rfl⟩
    ·rw [if_neg e] at hk' ⊢;exact hj t p ht hk'
   ·dsimp only;rw [if_neg (fun e=>by subst e;rw [hn] at hk;cases hk)]
  rw [if_neg h12] at h;rw [if_neg h12];by_cases h10:k = 10
  ·rw [if_pos h10] at h;rw [if_neg V0];obtain ⟨_,h2⟩:=q1l h;by_cases hb:isB c.kn s [0,1,3]=true
   ·exact VL
   rw [if_neg hb] at h2;by_cases hv:isB c.kn s [2]=true
   ·rw [if_pos hv] at h2;cases h2;exact ⟨hj,Kf.refl _ _⟩
   rw [if_neg hv] at h2;cases h2;exact ⟨show Jf (c.kn.put s (2,0)) fu from hj.put V2,Kf.refl _ _⟩
  rw [if_neg h10] at h;by_cases h8:k = 8\/k = 9
  ·rw [if_pos h8] at h;rw [if_neg V0];obtain ⟨_,h2⟩:=q1l h;by_cases hb:(c.ou.map (·.1)).contains s=true
   ·exact VL
   rw [if_neg hb] at h2;cases h2;exact ⟨hj,Kf.refl _ _⟩
  rw [if_neg h8] at h;by_cases h11:k = 11
  ·rw [if_pos h11] at h;rw [if_pos h11];obtain ⟨_,h2⟩:=q1l h;by_cases hb:namedB c.kn s=true
   ·exact VL
   rw [if_neg hb] at h2;obtain ⟨c1,h3,h4⟩:=q2k h2;cases h4;obtain ⟨g1,g2⟩:=q54 h3 (show Sorts (c.kn.put s (3,0)) from hs.put V2) (show Jf (c.kn.put s (3,0)) fu from hj.put V2);refine ⟨show Jf (c1.kn.dels _) _ from g1.dels _,fun t p hk=>g2 t p ?_⟩;show (if t=s then some (3,0) else c.kn t)=_;rw [if_neg (fun e=>by subst e;rw [q14 hb] at hk;cases hk)];exact hk
  rw [if_neg h11] at h;rw [if_neg h11];cases h;exact ⟨hj,Kf.refl _ _⟩
theorem q54:∀ {i:Nat} {l:List Tz} {c d:St} {fu:Fu},stBs i l c = .ok d->Sorts c.kn->Jf c.kn fu->Jf d.kn (lnTs i l fu)/\Kf c.kn fu (lnTs i l fu)
 | i,[],c,d,fu,h,hs,hj=>by
  rw [q3e] at h;cases h;cases i <;> (unfold lnTs;exact ⟨hj,Kf.refl _ _⟩)
 | 0,x :: l,c,d,fu,h,hs,hj=>by
  rw [q1R] at h;obtain ⟨c1,h1,h2⟩:=q2k h;obtain ⟨g1,g2⟩:=ln_ok h1 hs hj;obtain ⟨x1,x2⟩:=q3g h1 hs;obtain ⟨g3,g4⟩:=q54 h2 x2 g1;unfold lnTs;exact ⟨g3,g2.trans x1 g4⟩
 | i+1,x :: l,c,d,fu,h,hs,hj=>by
  unfold stBs at h;unfold lnTs;exact q54 h hs hj
end
def Arf(kn:Kn)(fu:Fu):Prop:=∀ s p,s≠sel->kn s=some (1,p)->arB fu s p=true
theorem call_ar{kn:Kn}{fu:Fu}(h:Arf kn fu){s:Bs}{p:Nat}(hs:s≠sel)(hc:¬ callB kn s p=false):arB fu s p=true:=by
 unfold callB at hc;cases hk:kn s with
 | none=>rw [hk] at hc;exact absurd rfl hc
 | some m=>
  rw [hk] at hc;obtain ⟨m1,m2⟩:=m;simp at hc;obtain ⟨rfl,rfl⟩:=hc;exact h s _ hs hk
mutual
theorem ex_ok{isN:Bs->Bool}{kn:Kn}{fu:Fu}(h:Arf kn fu):∀ (z:Tz),exB isN (callB kn) z=none->okC fu z
 | .mk k a s n ps l,he=>by
  unfold exB at he;unfold okC;by_cases hc:(k = 1/\isN s=false)\/(k = 5/\callB kn s l.length=false)
  ·rw [if_pos hc] at he;cases he
  ·rw [if_neg hc] at he;exact ⟨fun hk hs=>call_ar h hs fun hh=>hc (.inr ⟨hk,hh⟩),q3P h l he⟩
theorem q3P{isN:Bs->Bool}{kn:Kn}{fu:Fu}(h:Arf kn fu):∀ (l:List Tz),exBs isN (callB kn) l=none->okCs fu l
 | [],he=>by unfold okCs;trivial
 | x :: l,he=>by
  unfold exBs at he;unfold okCs;cases hx:exB isN (callB kn) x with
  | some a=>rw [hx] at he;cases he
  | none=>rw [hx] at he;exact ⟨ex_ok h x hx,q3P h l he⟩
end
theorem Arf.ext{c d:St}{fu:Fu}(h:Arf d.kn fu)(he:Ext c d):Arf c.kn fu:=fun s p hs hk=>h s p hs (he.kn s _ hk)
theorem dels_fn{c d:St}(h:Ext c d){n:Nat}(hn:n=c.en.length){s:Bs}{p:Nat}(hk:d.kn s=some (1,p)):d.kn.dels (d.en.drop n) s=some (1,p):=by
 subst hn;obtain ⟨e,h1,h2,_⟩:=h.en;have hd:d.en.drop c.en.length=e:=by rw [h1];simp
 rw [hd];unfold Kn.dels;rw [if_neg (fun hm=>by
  obtain ⟨_,m,h3,h4⟩:=h2 s hm;rw [hk] at h3;cases h3;exact h4 rfl)]
 exact hk
mutual
theorem st_ok{fu:Fu}:∀ {z:Tz} {c d:St},stB z c = .ok d->Sorts c.kn->Arf d.kn fu->okS fu z
 | .mk k a s n ps l,c,d,h,hs,hj=>by
  have hx:=(q3g h hs).1;unfold stB at h;unfold okS;by_cases h6:k = 6
  ·exact ⟨fun h=>V0,fun h=>V0⟩
  rw [if_neg h6] at h;by_cases h7:k = 7
  ·exact ⟨fun h=>V0,fun h=>V0⟩
  rw [if_neg h7] at h;by_cases h12:k = 12
  ·rw [if_pos h12] at h;by_cases hb:namedB c.kn s=true
   ·exact VY
   rw [if_neg hb] at h;by_cases hp:paB c.kn s [] ps=false
   ·rw [if_pos hp] at h;cases h
   rw [if_neg hp] at h;exact ⟨fun _=>q3P (hj.ext hx) _ (q1l h).1,fun h=>V0⟩
  rw [if_neg h12] at h;by_cases h10:k = 10
  ·rw [if_pos h10] at h;exact ⟨fun _=>q3P (hj.ext hx) _ (q1l h).1,fun h=>V0⟩
  rw [if_neg h10] at h;by_cases h8:k = 8\/k = 9
  ·rw [if_pos h8] at h;exact ⟨fun _=>q3P (hj.ext hx) _ (q1l h).1,fun h=>V0⟩
  rw [if_neg h8] at h;by_cases h11:k = 11
  ·rw [if_pos h11] at h;obtain ⟨_,h2⟩:=q1l h;by_cases hb:namedB c.kn s=true
   ·exact VL
   rw [if_neg hb] at h2;obtain ⟨c1,h3,h4⟩:=q2k h2;have h5:=(q1B h3 (show Sorts (c.kn.put s (3,0)) from hs.put V2)).1;have h0:=(Ext.new (d:={ c with kn:=c.kn.put s (3,0),en:=c.en ++ [s] }) (q14 hb) V2 rfl rfl).trans h5;refine ⟨fun h=>V0,fun _=>q55 h3 (show Sorts (c.kn.put s (3,0)) from hs.put V2) fun t p ht hk=>?_⟩;cases h4;exact hj t p ht (dels_fn h0 rfl hk)
  exact ⟨fun h=>V0,fun h=>V0⟩
theorem q55{fu:Fu}:∀ {i:Nat} {l:List Tz} {c d:St},stBs i l c = .ok d->Sorts c.kn->Arf d.kn fu->okSs fu i l
 | i,[],c,d,h,hs,hj=>by cases i <;> (unfold okSs;trivial)
 | 0,x :: l,c,d,h,hs,hj=>by
  rw [q1R] at h;obtain ⟨c1,h1,h2⟩:=q2k h;obtain ⟨x1,x2⟩:=q3g h1 hs;have x3:=(q1B h2 x2).1;unfold okSs;exact ⟨st_ok h1 hs (hj.ext x3),q55 h2 x2 hj⟩
 | i+1,x :: l,c,d,h,hs,hj=>by
  unfold stBs at h;unfold okSs;exact q55 h hs hj
end
def okF(fu ff:Fu):Prop:=∀ s f,ff s=some f->okCs fu (f.2.take 1)
mutual
theorem lnF{fu:Fu}:∀ (z:Tz) {ff:Fu},okS fu z->okF fu ff->okF fu (lnT z ff)
 | .mk k a s n ps l,ff,h,hf=>by
  obtain ⟨h1,h2⟩:=q3O h;unfold lnT;by_cases h12:k = 12
  ·rw [if_pos h12];intro t f ht;dsimp only at ht;by_cases e:t=s
   ·rw [if_pos e] at ht;cases ht;exact h1 (.inl h12)
   ·rw [if_neg e] at ht;exact hf t f ht
  rw [if_neg h12];by_cases h11:k = 11
  ·rw [if_pos h11];exact lnFs 2 l (h2 h11) hf
  ·rw [if_neg h11];exact hf
theorem lnFs{fu:Fu}:∀ (i:Nat) (l:List Tz) {ff:Fu},okSs fu i l->okF fu ff->okF fu (lnTs i l ff)
 | i,[],ff,h,hf=>by cases i <;> (unfold lnTs;exact hf)
 | 0,x :: l,ff,h,hf=>by
  unfold okSs at h;unfold lnTs;exact lnFs 0 l h.2 (lnF x h.1 hf)
 | i+1,x :: l,ff,h,hf=>by
  unfold okSs at h;unfold lnTs;exact lnFs i l h hf
end
theorem ck_ar{z:Tz}{d:St}(h:ckB z = .ok d):okSs (fuz z) 0 (lz z)/\okF (fuz z) (fuz z):=by
 have hs:Sorts Nm.init.kn:=fun s m hm=>by
  have hm':(if s=sel then some (1,3) else none)=some m:=hm;by_cases e:s=sel
  ·rw [if_pos e] at hm';cases hm';decide
  ·rw [if_neg e] at hm';cases hm'
 have hj:Jf Nm.init.kn (fun _=>none):=fun s p ht hk=>by
  have hm':(if s=sel then some (1,3) else none)=some (1,p):=hk;rw [if_neg ht] at hm';cases hm'
 obtain ⟨g1,_⟩:=q54 (i:=0) (l:=lz z) (fu:=fun _=>none) h hs hj;have ha:Arf d.kn (fuz z):=fun s p ht hk=>by
  obtain ⟨f,h1,h2⟩:=g1 s p ht hk;unfold arB fuz;rw [h1];simp [h2]
 have h1:=q55 (i:=0) (l:=lz z) h hs ha;exact ⟨h1,lnFs 0 (lz z) h1 fun s f hf=>by cases hf⟩
def Dm(k1 k2:Kw):Prop:=∀ s,(k1 s).isSome=true->(k2 s).isSome=true
end Fl
end Go.Proofs.YtcgibpdjfgjldaaGreatDoor
