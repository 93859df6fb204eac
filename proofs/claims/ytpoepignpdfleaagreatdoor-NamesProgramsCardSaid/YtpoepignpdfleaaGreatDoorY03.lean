/- DERIVED. NmMap, LxC, LxK, LxJ, PaSk, PaMo, PaAp, PaTop. By an AI agent. -/
import Derived.Test.YtpoepignpdfleaaGreatDoorY02
import Derived.Maps.OwnSet
import Derived.Maps.Views
import Derived.StringKeys
import Derived.ProofKit
import Derived.Test.YtpoepignpdfleaaGreatDoorY01
import Derived.Test.YtpoepignpdfleaaGreatDoorRows
import Derived.WalkKit
import Derived.Lib.Hide
import Derived.BigQuiet
set_option maxRecDepth 100000
set_option maxHeartbeats 4000000
namespace Go.Proofs.YtpoepignpdfleaaGreatDoor.Nm
open Go Go.ChangeShapes Go.WideShapes Go.ChangeAt Go.RowKit Lx Args Pa Sh
set_option linter.unusedVariables false
set_option linter.unusedSimpArgs false
def meanR:Value→Option (DataW Unit×List MemPlace)
 | .agg cs=>match cs.toList with
  | [.int .i64 a,.int .i64 p]=>some (.agg [.lit (.int .i64 a),.lit (.int .i64 p)],[])
  | _=>none
 | _=>none
def mD(m:Nat×Nat):DataW Unit:=.agg [.lit (.int .i64 (m.1:Int)),.lit (.int .i64 (m.2:Int))]
theorem meanR_mk(a p:Int):meanR (.agg #[.int .i64 a,.int .i64 p])=some (.agg [.lit (.int .i64 a),.lit (.int .i64 p)],[]):=by simp [meanR]
theorem meanR_inv{v:Value}{m:Nat×Nat}{ps:List MemPlace}(h:meanR v=some (mD m,ps)):v = .agg #[.int .i64 (m.1:Int),.int .i64 (m.2:Int)]:=by
 unfold meanR at h
 split at h
 ·rename_i cs
  split at h
  ·rename_i a p hcs
   simp only [Option.some.injEq,Prod.mk.injEq,mD,DataW.agg.injEq,List.cons.injEq,DataW.lit.injEq,Lit.int.injEq,true_and,and_true] at h
   obtain ⟨⟨rfl,rfl⟩,_⟩:=h
   have:cs=[Value.int .i64 (m.1:Int),.int .i64 (m.2:Int)].toArray:=by rw [←hcs]
   rw [this]
  ·cases h
 ·cases h
theorem uStr:Tryz.prog.underlying 9=some .string:=by kernel_rfl
theorem law:Maps.Keyed Tryz.prog 9:=Maps.string_keyed uStr
theorem key_of{s:Bs}(hs:s.length≤maxLen):keyOf Tryz.prog 9 (.string ⟨s.toArray⟩)=some (.string s):=by
 have:=WideMaps.keyOf_string_mk (P:=Tryz.prog) (k:=9) uStr (s:=⟨s.toArray⟩) (by simpa [ByteArray.size] using hs)
 simpa using this
theorem isKeyS(s:Bs):WideAt.IsKeyLit (.string s):=trivial
theorem key_ne{s t:Bs}(h:t≠s):(Lit.string t)≠.string s:=fun e=>h (by cases e;rfl)
structure MpK(w:World)(b n:Nat)(kn:Kn):Prop where
 ex:∃ D:DataW Unit,w.ownsMap Tryz.prog 9 meanR b n D∧∀ s:Bs,s.length≤maxLen→Maps.has D (.string s)=(kn s).isSome∧∀ m,kn s=some m→∀ z,D.atKey (.string s) z=mD m
 sorts:∀ s m,kn s=some m→m.1≤3∧m.2≤maxLen
structure MpS(w:World)(b n:Nat)(f:Bs→Bool):Prop where
 ex:∃ D:DataW Unit,w.ownsMap Tryz.prog 9 (unitElem (H:=Unit)) b n D∧∀ s:Bs,s.length≤maxLen→Maps.has D (.string s)=f s
theorem zMn(w:World):(zeroValue 58).run Tryz.prog w = .ok (.agg #[.int .i64 0,.int .i64 0]) w:=by kernel_rfl
theorem zUn(w:World):(zeroValue 83).run Tryz.prog w = .ok (.agg #[]) w:=by kernel_rfl
section
variable {w w' : World} {b n : Nat} {kn : Kn} {f : Bs → Bool} {s : Bs}
theorem MpK.lt(h:MpK w b n kn):b < w.heap.size:=by obtain ⟨D,h1,_⟩:=h.ex;exact h1.lt
theorem MpS.lt(h:MpS w b n f):b < w.heap.size:=by obtain ⟨D,h1⟩:=h.ex;exact h1.1.lt
theorem own_heap{R:Value→Option (DataW Unit×List MemPlace)}{D:DataW Unit}(h:w.ownsMap Tryz.prog 9 R b n D)(e:w'.heap[b]?=w.heap[b]?):w'.ownsMap Tryz.prog 9 R b n D:=by
 obtain ⟨es,clock,hb,h2⟩:=h
 exact ⟨es,clock,e.trans hb,h2⟩
theorem MpK.heap(h:MpK w b n kn)(e:w'.heap[b]?=w.heap[b]?):MpK w' b n kn:=by
 obtain ⟨D,h1,h2⟩:=h.ex;exact ⟨⟨D,own_heap h1 e,h2⟩,h.sorts⟩
theorem MpS.heap(h:MpS w b n f)(e:w'.heap[b]?=w.heap[b]?):MpS w' b n f:=by
 obtain ⟨D,h1,h2⟩:=h.ex;exact ⟨⟨D,own_heap h1 e,h2⟩⟩
theorem MpK.upd{X:Nat→Prop}(h:MpK w b n kn)(hu:Upd X w w')(hx:¬ X b):MpK w' b n kn:=h.heap (hu.block b h.lt hx)
theorem MpS.upd{X:Nat→Prop}(h:MpS w b n f)(hu:Upd X w w')(hx:¬ X b):MpS w' b n f:=h.heap (hu.block b h.lt hx)
theorem MpK.mono(h:MpK w b n kn){m:Nat}(hm:n≤m):MpK w b m kn:=by
 obtain ⟨D,h1,h2⟩:=h.ex;exact ⟨⟨D,h1.mono hm,h2⟩,h.sorts⟩
theorem MpS.mono(h:MpS w b n f){m:Nat}(hm:n≤m):MpS w b m f:=by
 obtain ⟨D,h1,h2⟩:=h.ex;exact ⟨⟨D,h1.mono hm,h2⟩⟩
def kAt(kn:Kn)(s:Bs):Nat×Nat:=(kn s).getD (0,0)
theorem MpK.val(h:MpK w b n kn)(hs:s.length≤maxLen){D:DataW Unit}(hD:∀ s:Bs,s.length≤maxLen→Maps.has D (.string s)=(kn s).isSome∧∀ m,kn s=some m→∀ z,D.atKey (.string s) z=mD m){v:Value}{ps:List MemPlace}
  (hv:meanR v=some (D.atKey (.string s) (mD (0,0)),ps)):v = .agg #[.int .i64 ((kAt kn s).1:Int),.int .i64 ((kAt kn s).2:Int)]:=by
 obtain ⟨h1,h2⟩:=hD s hs
 unfold kAt
 cases hk:kn s with
 | none=>
  rw [hk] at h1
  rw [Maps.atKey_of_not_has h1] at hv
  exact meanR_inv hv
 | some m=>
  rw [h2 m hk] at hv
  exact meanR_inv hv
theorem MpK.look(h:MpK w b n kn)(hs:s.length≤maxLen):(Instr.lookup 59 (.map (some b)) (.string ⟨s.toArray⟩) true).run Tryz.prog w = .ok (.tuple #[.agg #[.int .i64 ((kAt kn s).1:Int),.int .i64 ((kAt kn s).2:Int)],.bool (kn s).isSome]) w:=by
 obtain ⟨D,h1,h2⟩:=h.ex
 obtain ⟨v,ps,hr,hv⟩:=h1.look_ok law Tryz.underlying59 (zMn w) (zd:=mD (0,0)) (meanR_mk 0 0) (key_of hs)
 rw [hr,h.val hs h2 hv,(h2 s hs).1]
theorem MpK.look1(h:MpK w b n kn)(hs:s.length≤maxLen):(Instr.lookup 59 (.map (some b)) (.string ⟨s.toArray⟩) false).run Tryz.prog w = .ok (.agg #[.int .i64 ((kAt kn s).1:Int),.int .i64 ((kAt kn s).2:Int)]) w:=by
 obtain ⟨D,h1,h2⟩:=h.ex
 obtain ⟨v,ps,hr,hv⟩:=h1.lookup law Tryz.underlying59 (zMn w) (zd:=mD (0,0)) (meanR_mk 0 0) (key_of hs)
 rw [hr,h.val hs h2 hv]
theorem MpS.look(h:MpS w b n f)(hs:s.length≤maxLen):(Instr.lookup 51 (.map (some b)) (.string ⟨s.toArray⟩) true).run Tryz.prog w = .ok (.tuple #[.agg #[],.bool (f s)]) w:=by
 obtain ⟨D,h1,h2⟩:=h.ex
 obtain ⟨v,ps,hr,hv⟩:=h1.look_ok law Tryz.underlying51 (zUn w) (zd:=.agg []) unitElem_mk (key_of hs)
 obtain ⟨rfl,_⟩:=unitElem_inv hv
 rw [hr,h2 s hs]
theorem turned_upd{X:Nat→Prop}(h:w.mapTurned w' b)(hx:X b):Upd X w w':=(Upd.refl X w).grown h.grown fun k hk _=>by cases hk;exact hx
theorem MpK.put(h:MpK w b n kn)(hs:s.length≤maxLen)(hn:n < maxLen)(m:Nat×Nat)(hm:m.1≤3)(hm2:m.2≤maxLen) :
  ∃ w',(Instr.mapUpdate 59 (.map (some b)) (.string ⟨s.toArray⟩) (.agg #[.int .i64 (m.1:Int),.int .i64 (m.2:Int)])).run Tryz.prog w = .ok () w'∧MpK w' b (n+1) (kn.put s m)∧w.mapTurned w' b:=by
 obtain ⟨D,h1,h2⟩:=h.ex
 obtain ⟨w',hr,h3,h4⟩:=h1.store law Tryz.underlying59 hn (key_of hs) (d:=mD m) (meanR_mk _ _)
 refine ⟨w',hr,⟨⟨_,h3,fun t ht=>?_⟩,fun t m' ht=>?_⟩,h4⟩
 ·unfold Kn.put
  by_cases e:t=s
  ·subst e
   rw [if_pos rfl]
   refine ⟨Maps.has_put_same h1.isMap (isKeyS _) _,fun m' hm' z=>?_⟩
   cases hm'
   exact Maps.atKey_put_same h1.isMap (isKeyS _) _ _
  ·rw [if_neg e]
   refine ⟨(Maps.has_put_other (key_ne e) _).trans (h2 t ht).1,fun m' hm' z=>(Maps.atKey_put_other (key_ne e) _ _).trans ((h2 t ht).2 m' hm' z)⟩
 ·unfold Kn.put at ht
  by_cases e:t=s
  ·rw [if_pos e] at ht;cases ht;exact ⟨hm,hm2⟩
  ·rw [if_neg e] at ht;exact h.sorts t m' ht
theorem MpK.del(h:MpK w b n kn)(hs:s.length≤maxLen)(ty:TypeId) :
  ∃ w',(Builtin.delete_ #[59,9] ty #[.map (some b),.string ⟨s.toArray⟩]).run Tryz.prog w = .ok (.tuple #[]) w'∧MpK w' b n (kn.dels [s])∧w.mapTurned w' b:=by
 obtain ⟨D,h1,h2⟩:=h.ex
 obtain ⟨w',hr,h3,h4⟩:=h1.drop law Tryz.underlying59 (key_of hs) ty
 refine ⟨w',hr,⟨⟨_,h3,fun t ht=>?_⟩,fun t m' ht=>?_⟩,h4⟩
 ·unfold Kn.dels
  by_cases e:t=s
  ·subst e
   rw [if_pos (by simp)]
   exact ⟨Maps.has_del_same,fun m' hm'=>by cases hm'⟩
  ·rw [if_neg (by simpa using e)]
   exact ⟨(Maps.has_del_other (key_ne e)).trans (h2 t ht).1,fun m' hm' z=>(Maps.atKey_del_other (key_ne e) _).trans ((h2 t ht).2 m' hm' z)⟩
 ·unfold Kn.dels at ht
  by_cases e:t∈[s]
  ·rw [if_pos e] at ht;cases ht
  ·rw [if_neg e] at ht;exact h.sorts t m' ht
theorem MpS.put(h:MpS w b n f)(hs:s.length≤maxLen)(hn:n < maxLen) :
  ∃ w',(Instr.mapUpdate 51 (.map (some b)) (.string ⟨s.toArray⟩) (.agg #[])).run Tryz.prog w = .ok () w'∧MpS w' b (n+1) (fun t=>f t || t==s)∧w.mapTurned w' b:=by
 obtain ⟨D,h1,h2⟩:=h.ex
 obtain ⟨w',hr,h3,h4⟩:=h1.store law Tryz.underlying51 hn (key_of hs) (d:=.agg []) unitElem_mk
 refine ⟨w',hr,⟨⟨_,h3,fun t ht=>?_⟩⟩,h4⟩
 by_cases e:t=s
 ·subst e
  rw [Maps.has_put_same h1.isMap (isKeyS _)]
  simp
 ·rw [Maps.has_put_other (key_ne e),h2 t ht]
  have:(t==s)=false:=by simpa using e
  rw [this,Bool.or_false]
theorem MpK.made(w:World):MpK (w.alloc (.map #[] 0)) w.heap.size 0 (fun _=>none):=
 ⟨⟨_,World.ownsMap_made w _ _ _,fun s _=>⟨rfl,fun m hm=>by cases hm⟩⟩,fun s m hm=>by cases hm⟩
theorem MpS.made(w:World):MpS (w.alloc (.map #[] 0)) w.heap.size 0 (fun _=>false):=⟨⟨_,World.ownsMap_made w _ _ _,fun s _=>rfl⟩⟩
end
end Go.Proofs.YtpoepignpdfleaaGreatDoor.Nm
namespace Go.Proofs.YtpoepignpdfleaaGreatDoor.Lx
open Go Go.ChangeShapes Go.WideShapes Go.ChangeAt Go.RowKit Args
set_option linter.unusedVariables false
set_option linter.unusedSimpArgs false
theorem letter(c:UInt8)(w:World):Calls Tryz.prog 45 #[.int .u8 ((c.toNat:Nat):Int)] w fun e w'=>e = .returned (.bool (letB c))∧w=w':=by
 have hb:letB c=((decide (65≤c.toNat) && decide (c.toNat≤90)) || (decide (97≤c.toNat) && decide (c.toNat≤122))):=rfl
 generalize letB c=b at *
 generalize c.toNat=k at *
 by_cases h1:65≤k
 ·by_cases h2:k≤90
  ·have HB:=Hi (show b=true by rw [hb];simp [h1,h2])
   have i1:decide ((65:Int)≤(k:Int))=true:=by simp;omega
   have i2:decide ((k:Int)≤90)=true:=by simp;omega
   clear hb h1 h2
   go_enter Tryz.func45,Tryz.ntmps45
   go_wp2_with fail
   go_ret
   exact ⟨(congrArg (fun b=>Ending.returned (Value.bool b)) HB.out).symm,rfl⟩
  ·by_cases h3:97≤k
   ·by_cases h4:k≤122
    ·have HB:=Hi (show b=true by rw [hb];simp [h3,h4])
     have i1:decide ((65:Int)≤(k:Int))=true:=by simp;omega
     have i2:decide ((k:Int)≤90)=false:=by simp;omega
     have i3:decide ((97:Int)≤(k:Int))=true:=by simp;omega
     have i4:decide ((k:Int)≤122)=true:=by simp;omega
     clear hb h1 h2 h3 h4
     go_enter Tryz.func45,Tryz.ntmps45
     go_wp2_with fail
     go_ret
     exact ⟨(congrArg (fun b=>Ending.returned (Value.bool b)) HB.out).symm,rfl⟩
    ·have HB:=Hi (show b=false by rw [hb];simp;omega)
     have i1:decide ((65:Int)≤(k:Int))=true:=by simp;omega
     have i2:decide ((k:Int)≤90)=false:=by simp;omega
     have i3:decide ((97:Int)≤(k:Int))=true:=by simp;omega
     have i4:decide ((k:Int)≤122)=false:=by simp;omega
     clear hb h1 h2 h3 h4
     go_enter Tryz.func45,Tryz.ntmps45
     go_wp2_with fail
     go_ret
     exact ⟨(congrArg (fun b=>Ending.returned (Value.bool b)) HB.out).symm,rfl⟩
   ·have HB:=Hi (show b=false by rw [hb];simp;omega)
    have i1:decide ((65:Int)≤(k:Int))=true:=by simp;omega
    have i2:decide ((k:Int)≤90)=false:=by simp;omega
    have i3:decide ((97:Int)≤(k:Int))=false:=by simp;omega
    clear hb h1 h2 h3
    go_enter Tryz.func45,Tryz.ntmps45
    go_wp2_with fail
    go_ret
    exact ⟨(congrArg (fun b=>Ending.returned (Value.bool b)) HB.out).symm,rfl⟩
 ·have HB:=Hi (show b=false by rw [hb];simp;omega)
  have i1:decide ((65:Int)≤(k:Int))=false:=by simp;omega
  have i3:decide ((97:Int)≤(k:Int))=false:=by simp;omega
  clear hb h1
  go_enter Tryz.func45,Tryz.ntmps45
  go_wp2_with fail
  go_ret
  exact ⟨(congrArg (fun b=>Ending.returned (Value.bool b)) HB.out).symm,rfl⟩
theorem num(c:UInt8)(w:World):Calls Tryz.prog 46 #[.int .u8 ((c.toNat:Nat):Int)] w fun e w'=>e = .returned (.bool (numB c))∧w=w':=by
 have hb:numB c=(decide (48≤c.toNat) && decide (c.toNat≤57)):=rfl
 generalize numB c=b at *
 generalize c.toNat=k at *
 by_cases h1:48≤k
 ·by_cases h2:k≤57
  ·have HB:=Hi (show b=true by rw [hb];simp [h1,h2])
   have i1:decide ((48:Int)≤(k:Int))=true:=by simp;omega
   have i2:decide ((k:Int)≤57)=true:=by simp;omega
   clear hb h1 h2
   go_enter Tryz.func46,Tryz.ntmps46
   go_wp2_with fail
   go_ret
   exact ⟨(congrArg (fun b=>Ending.returned (Value.bool b)) HB.out).symm,rfl⟩
  ·have HB:=Hi (show b=false by rw [hb];simp;omega)
   have i1:decide ((48:Int)≤(k:Int))=true:=by simp;omega
   have i2:decide ((k:Int)≤57)=false:=by simp;omega
   clear hb h1 h2
   go_enter Tryz.func46,Tryz.ntmps46
   go_wp2_with fail
   go_ret
   exact ⟨(congrArg (fun b=>Ending.returned (Value.bool b)) HB.out).symm,rfl⟩
 ·have HB:=Hi (show b=false by rw [hb];simp;omega)
  have i1:decide ((48:Int)≤(k:Int))=false:=by simp;omega
  clear hb h1
  go_enter Tryz.func46,Tryz.ntmps46
  go_wp2_with fail
  go_ret
  exact ⟨(congrArg (fun b=>Ending.returned (Value.bool b)) HB.out).symm,rfl⟩
abbrev strs(l:List Bs):List Value:=l.map fun t=>.string ⟨t.toArray⟩
theorem inL(l:List Bs)(s:Bs):∀ k,(∀ j,j < k→l[j]?≠some s)→(l.drop k).contains s=l.contains s:=fun k h=>by
 induction k generalizing l with
 | zero=>rfl
 | succ k ih=>
  cases l with
  | nil=>rfl
  | cons x l=>
   rw [List.drop_succ_cons,ih l fun j hj=>by have:=h (j+1) (by omega);simpa using this]
   have hx:x≠s:=fun e=>h 0 (by omega) (by simp [e])
   simp only [List.contains_eq_mem,List.mem_cons,Ne.symm hx,false_or]
theorem in_(A:Option Addr)(c:Nat)(l:List Bs)(s:ByteArray)(w:World)(hA:Lies w A (strs l))(hl:l.length≤1000) :
  Calls Tryz.prog 24 #[.slice A l.length c,.string s] w fun e w'=>e = .returned (.bool (l.contains s.data.toList))∧w=w':=by
 have hin:=inL l s.data.toList
 have HA:=Hi hA;have HIN:=Hi hin
 clear hA hin
 generalize hb:l.contains s.data.toList=b at *
 have HB:=Hi hb
 clear hb
 go_enter Tryz.func24,Tryz.ntmps24
 go_wp2_with fail
 go_loop [5] (fun vi=>∃ k:Nat,k≤l.length∧vi = .int .i64 k∧Hid (∀ j,j < k→l[j]?≠some s.data.toList)) (fun vi=>l.length - (intOf vi).toNat)
 case atStart=>exact ⟨0,by omega,rfl,Hi fun j hj=>absurd hj (by omega)⟩
 case round=>
  obtain ⟨k,hk,rfl,HQ⟩:=hrel
  by_cases hlt:k < l.length
  ·obtain ⟨t,ht⟩:∃ t,l[k]?=some t:=⟨_,List.getElem?_eq_getElem hlt⟩
   have ht2:(strs l)[k]?=some (.string ⟨t.toArray⟩):=by simp [ht]
   obtain ⟨b',o,rfl,_,hc⟩:=HA.out.at_ ht2
   have e1:=hc _ _ ht2
   have HTT:=Hi ht
   clear hc ht2 ht
   cases hq:(t==s.toList) with
   | true=>
    have hts:t=s.data.toList:=by have:=eq_of_beq hq;rwa [ByteArray.toList_eq] at this
    have HR:=Hi (show b=true from by rw [←HB.out,List.contains_eq_mem,decide_eq_true_eq,←hts];exact List.mem_of_getElem? HTT.out)
    clear hts
    go_wp2_with fail
    go_ret
    exact ⟨(congrArg (fun b=>Ending.returned (Value.bool b)) HR.out).symm,rfl⟩
   | false=>
    have hts:t≠s.data.toList:=fun e=>by rw [ByteArray.toList_eq,e] at hq;simp at hq
    have HTS:=Hi hts
    clear hts
    go_wp2_with fail
    go_round
    case rel=>exact ⟨k+1,by omega,by go_num,Hi fun j hj=>by
     by_cases hjk:j < k
     ·exact HQ.out j hjk
     ·obtain rfl:j=k:=by omega
      rw [HTT.out];intro e;exact HTS.out (Option.some.inj e)⟩
    case measure=>simp [intOf];omega
  ·have HR:=Hi (show b=false from by rw [←HIN.out k HQ.out,List.drop_of_length_le (by omega)];rfl)
   go_wp2_with fail
   go_ret
   exact ⟨(congrArg (fun b=>Ending.returned (Value.bool b)) HR.out).symm,rfl⟩
theorem lies_strs(w:World)(t:TypeId)(l:List Bs):Lies (w.alloc (.cells (strs l).toArray t)) (some ⟨w.heap.size,0,none⟩) (strs l):=fun j u hj=>⟨_,rfl,by
 rw [Args.add_plain,Nat.zero_add,World.cell?_alloc_at _ _ _ _ rfl];simpa using hj⟩
theorem word(s:ByteArray)(w:World):Calls Tryz.prog 47 #[.string s] w fun e w'=>e = .returned (.bool (wordB s.data.toList))∧Below w.heap.size w w':=by
 have hI:=in_ (some ⟨w.heap.size,0,none⟩) 7 words7 s (w.alloc (.cells (strs words7).toArray 9)) (lies_strs w 9 words7) (by decide)
 have hx:Below w.heap.size w (w.alloc (.cells (strs words7).toArray 9)):=(Below.refl _ _).alloc (Nat.le_refl _) _
 have HX:=Hi hx
 rw [show words7.contains s.data.toList=wordB s.data.toList from rfl] at hI
 generalize wordB s.data.toList=b at *
 have HI:=Hi hI
 clear hI hx
 go_enter Tryz.func47,Tryz.ntmps47
 go_wp2_with fail
 refine HI.out.mono ?_
 rintro e w' ⟨rfl,rfl⟩
 go_wp2_with fail
 go_ret
 exact ⟨rfl,HX.out⟩
theorem u8_of{c:UInt8}{n:Nat}(h:c.toNat=n):c=UInt8.ofNat n:=by rw [←h];simp
theorem skip_sp{c:UInt8}{r:Bs}(h:c.toNat = 32∨c.toNat = 9∨c.toNat = 10):skipL false (c :: r)=skipL false r+1:=by
 rcases h with h | h | h <;> (rw [u8_of h];rfl)
theorem skip_cm{c d:UInt8}{r:Bs}(h:c.toNat = 47)(h2:d.toNat = 47):skipL false (c :: d :: r)=skipL true (c :: d :: r):=by
 rw [u8_of h,u8_of h2];rfl
theorem u8_ne{c:UInt8}{n:Nat}(h:c.toNat≠n)(hn:n < 256):c≠UInt8.ofNat n:=fun e=>h (by rw [e];simp;omega)
theorem skip_no{c:UInt8}{r:Bs}(h1:c.toNat≠32)(h2:c.toNat≠9)(h3:c.toNat≠10)(h4:c.toNat = 47→∀ d,r.head?=some d→d.toNat≠47):skipL false (c :: r) = 0:=by
 have e1:=u8_ne h1 (by decide);have e2:=u8_ne h2 (by decide);have e3:=u8_ne h3 (by decide)
 have f1:c≠32:=e1
 have f2:c≠9:=e2
 have f3:c≠10:=e3
 unfold skipL
 rw [if_neg (by simp [f1,f2,f3])]
 by_cases h:c.toNat = 47
 ·cases r with
  | nil=>simp
  | cons d r=>
   have f4:d≠47:=u8_ne (h4 h d rfl) (by decide)
   rw [if_neg (by simp [f4])]
 ·have f4:c≠47:=u8_ne h (by decide)
  rw [if_neg (by simp [f4])]
theorem cm_nl{c:UInt8}{r:Bs}(h:c.toNat = 10):skipL true (c :: r)=skipL false (c :: r):=by rw [u8_of h];rfl
theorem cm_on{c:UInt8}{r:Bs}(h:c.toNat≠10):skipL true (c :: r)=skipL true r+1:=by
 have f:c≠10:=u8_ne h (by decide)
 show (if c==10 then skipL false r+1 else skipL true r+1)=_
 rw [if_neg (by simp [f])]
theorem drop_at(s:ByteArray)(k:Nat)(h:k < s.size):s.data.toList.drop k=s[k] :: s.data.toList.drop (k+1):=by
 have h':k < s.data.toList.length:=by simpa using h
 rw [List.drop_eq_getElem_cons h'];rfl
theorem drop_end(s:ByteArray)(k:Nat)(h:s.size≤k):s.data.toList.drop k=[]:=List.drop_of_length_le (by simpa using h)
theorem skip(s:ByteArray)(i:Nat)(hi:i≤s.size)(hs:s.size≤100000)(w:World) :
  Calls Tryz.prog 44 #[.string s,.int .i64 (i:Int)] w fun e w'=>e = .returned (.int .i64 ((i+skipL false (s.data.toList.drop i):Nat):Int))∧w=w':=by
 obtain ⟨r,hr⟩:∃ r,i+skipL false (s.data.toList.drop i)=r:=⟨_,rfl⟩
 rw [hr]
 have HR:=Hi hr
 clear hr
 go_enter Tryz.func44,Tryz.ntmps44
 go_wp2_with fail
 go_loop [1] (fun vi=>∃ k:Nat,k≤s.size∧vi = .int .i64 k∧Hid (k+skipL false (s.data.toList.drop k)=r)) (fun vi=>s.size - (intOf vi).toNat)
 case atStart=>exact ⟨i,hi,rfl,HR⟩
 case round=>
  clear HR
  obtain ⟨k,hk,rfl,HQ⟩:=hrel
  by_cases hlt:k < s.size
  ·have hd:=drop_at s k hlt
   have hq:=HQ.out
   rw [hd] at hq
   have hc:=s[k].toNat_lt
   by_cases h32:s[k].toNat = 32∨s[k].toNat = 9∨s[k].toNat = 10
   ·rw [skip_sp h32] at hq
    have HN:=Hi (show k+1+skipL false (s.data.toList.drop (k+1))=r by omega)
    clear hd hq
    by_cases n1:s[k].toNat = 32
    ·have e1:((s[k].toNat:Int)==32)=true:=by simp;omega
     clear h32 n1 hc HQ
     go_wp2_with fail
     go_round
     case rel=>exact ⟨k+1,by omega,by go_num,HN⟩
     case measure=>simp [intOf];omega
    ·have e1:((s[k].toNat:Int)==32)=false:=by simp;omega
     by_cases n2:s[k].toNat = 9
     ·have e2:((s[k].toNat:Int)==9)=true:=by simp;omega
      clear h32 n1 n2 hc HQ
      go_wp2_with fail
      go_round
      case rel=>exact ⟨k+1,by omega,by go_num,HN⟩
      case measure=>simp [intOf];omega
     ·have e2:((s[k].toNat:Int)==9)=false:=by simp;omega
      have e3:((s[k].toNat:Int)==10)=true:=by simp;omega
      clear h32 n1 n2 hc HQ
      go_wp2_with fail
      go_round
      case rel=>exact ⟨k+1,by omega,by go_num,HN⟩
      case measure=>simp [intOf];omega
   ·have n1:s[k].toNat≠32:=by omega
    have n2:s[k].toNat≠9:=by omega
    have n3:s[k].toNat≠10:=by omega
    have e1:((s[k].toNat:Int)==32)=false:=by simp;omega
    have e2:((s[k].toNat:Int)==9)=false:=by simp;omega
    have e3:((s[k].toNat:Int)==10)=false:=by simp;omega
    have e10:((s[k].toNat:Int) != 10)=true:=by simp;omega
    by_cases h47:s[k].toNat = 47
    ·by_cases hk1:k+1 < s.size
     ·have hd1:=drop_at s (k+1) hk1
      by_cases h48:s[k+1].toNat = 47
      ·rw [hd1,skip_cm h47 h48,←hd1,←hd] at hq
       have HN:=Hi hq
       have HW:Hid (∀ h:k < s.size,s[k].toNat = 10→k < k):=Hi fun h e=>by omega
       have e4:((s[k].toNat:Int)==47)=true:=by simp;omega
       have e5:((s[k+1].toNat:Int)==47)=true:=by simp;omega
       have hk1':(k:Int)+1 < (s.size:Int):=by omega
       clear hd hq hd1 h32 h47 h48 hc n1 n2 n3 HQ
       go_wp2_with fail
       go_loop [1] (fun vi=>∃ m:Nat,(m≤s.size∧k≤m)∧vi = .int .i64 m∧Hid (m+skipL true (s.data.toList.drop m)=r)∧Hid (∀ h:m < s.size,s[m].toNat = 10→k < m)) (fun vi=>s.size - (intOf vi).toNat)
       case atStart=>exact ⟨k,⟨by omega,Nat.le_refl _⟩,rfl,HN,HW⟩
       case round=>
        clear HN
        obtain ⟨m,⟨hm,hkm⟩,rfl,HM,HV⟩:=hrel
        by_cases hlt2:m < s.size
        ·have hd2:=drop_at s m hlt2
         have hq2:=HM.out
         rw [hd2] at hq2
         by_cases n10:s[m].toNat = 10
         ·rw [cm_nl n10,←hd2] at hq2
          have HN:=Hi hq2
          have hlt3:k < m:=HV.out hlt2 n10
          have e6:((s[m].toNat:Int) != 10)=false:=by simp;omega
          clear hq2 hd2 n10 HM
          go_wp2_with fail
          go_round
          case rel=>exact ⟨m,by omega,by go_num,HN⟩
          case measure=>simp [intOf];omega
         ·rw [cm_on n10] at hq2
          have HN:=Hi (show m+1+skipL true (s.data.toList.drop (m+1))=r by omega)
          have e6:((s[m].toNat:Int) != 10)=true:=by simp;omega
          clear hq2 hd2 n10 HM
          go_wp2_with fail
          go_round
          case rel=>exact ⟨m+1,⟨by omega,by omega⟩,by go_num,HN,Hi fun _ _=>by omega⟩
          case measure=>simp [intOf];omega
        ·rw [drop_end s m (by omega)] at HM
         have HN:=Hi (show m+skipL false (s.data.toList.drop m)=r by rw [drop_end s m (by omega)];exact HM.out)
         clear HM
         go_wp2_with fail
         go_round
         case rel=>exact ⟨m,by omega,by go_num,HN⟩
         case measure=>simp [intOf];omega
      ·have h0:skipL false (s[k] :: s.data.toList.drop (k+1)) = 0:=skip_no n1 n2 n3 fun _ d hd'=>by rw [hd1] at hd';cases hd';exact h48
       rw [h0] at hq
       have HE:=Hi (show r=k from hq.symm)
       have e4:((s[k].toNat:Int)==47)=true:=by simp;omega
       have e5:((s[k+1].toNat:Int)==47)=false:=by simp;omega
       have hk1':(k:Int)+1 < (s.size:Int):=by omega
       clear hd hq hd1 h32 h47 h48 hc n1 n2 n3 HQ h0
       go_wp2_with fail
       go_ret
       exact ⟨by rw [HE.out] <;> rfl,rfl⟩
     ·have h0:skipL false (s[k] :: s.data.toList.drop (k+1)) = 0:=skip_no n1 n2 n3 fun _ d hd'=>by rw [drop_end s (k+1) (by omega)] at hd';cases hd'
      rw [h0] at hq
      have HE:=Hi (show r=k from hq.symm)
      have e4:((s[k].toNat:Int)==47)=true:=by simp;omega
      clear hd hq h32 h47 hc n1 n2 n3 HQ h0
      go_wp2_with fail
      go_ret
      exact ⟨by rw [HE.out] <;> rfl,rfl⟩
    ·have h0:skipL false (s[k] :: s.data.toList.drop (k+1)) = 0:=skip_no n1 n2 n3 fun h=>absurd h h47
     rw [h0] at hq
     have HE:=Hi (show r=k from hq.symm)
     have e4:((s[k].toNat:Int)==47)=false:=by simp;omega
     clear hd hq h32 h47 hc n1 n2 n3 HQ h0
     go_wp2_with fail
     go_ret
     exact ⟨by rw [HE.out] <;> rfl,rfl⟩
  ·rw [drop_end s k (by omega)] at HQ
   have HE:=Hi (show r=k from HQ.out.symm)
   clear HQ
   go_wp2_with fail
   go_ret
   exact ⟨by rw [HE.out] <;> rfl,rfl⟩
def tkC(t:Tk):List Value:=[.int .i64 (t.k:Int),.string ⟨t.s.toArray⟩,.int .i64 (t.at_:Int)]
theorem below_drewN{B:Nat}{w w':World}(h:Below B w w')(n:Nat):Below B w (w'.drewN n):=⟨h.os,h.tape,h.output,h.size,h.block⟩
end Go.Proofs.YtpoepignpdfleaaGreatDoor.Lx
namespace Go.Proofs.YtpoepignpdfleaaGreatDoor.Pa
open Lx
def Le(o o':OO):Prop:=∀ x,o=some x→o'=some x
theorem le_refl(o:OO):Le o o:=fun _ h=>h
theorem le_if{c:Prop}[Decidable c]{o o' p p':OO}(h1:Le o o')(h2:Le p p'):Le (if c then o else p) (if c then o' else p'):=by
 by_cases h:c
 ·rw [if_pos h,if_pos h];exact h1
 ·rw [if_neg h,if_neg h];exact h2
theorem le_bnd{o o':OO}{f f':List Tr→List Tk→OO}(h:Le o o')(hf:∀ xs r,Le (f xs r) (f' xs r)):Le (bnd o f) (bnd o' f'):=by
 rcases o with _ | ⟨l,r⟩ | ⟨a,e⟩
 ·intro x hx;cases hx
 ·rw [h _ rfl];exact hf l r
 ·rw [h _ rfl];exact le_refl _
theorem le_must{b:Bs}{l:List Tk}{f f':List Tk→OO}(hf:∀ r,Le (f r) (f' r)):Le (must b l f) (must b l f'):=by
 cases l with
 | nil=>exact le_refl _
 | cons t l=>unfold must;exact le_if (hf _) (le_refl _)
theorem le_name{l:List Tk}{f f':Bs→List Tk→OO}(hf:∀ s r,Le (f s r) (f' s r)):Le (nameK l f) (nameK l f'):=by
 cases l with
 | nil=>exact le_refl _
 | cons t l=>unfold nameK;exact le_if (hf _ _) (le_refl _)
theorem le_names{f f':List Bs→List Tk→OO}(hf:∀ ps r,Le (f ps r) (f' ps r)):∀ (ps:List Bs) (l:List Tk),Le (namesK ps l f) (namesK ps l f')
 | _,[]=>le_refl _
 | ps,[t]=>by unfold namesK;exact le_if (hf _ _) (le_refl _)
 | ps,t :: u :: r=>by unfold namesK;exact le_if (le_if (le_names hf _ r) (hf _ _)) (le_refl _)
theorem pF_mono(num:Bs→Nat×Nat):∀ (f g:Nat),f≤g→∀ (nt:NT) (d:Nat) (l:List Tk),Le (pF num f nt d l) (pF num g nt d l):=by
 intro f
 induction f with
 | zero=>intro g _ nt d l x hx;cases hx
 | succ f ih0=>
  intro g hg nt d l
  obtain ⟨g,rfl⟩:∃ x,g=x+1:=⟨g - 1,by omega⟩
  have ih:=ih0 g (by omega)
  clear ih0
  cases nt with
  | lev n=>
   unfold pF
   refine le_if (le_bnd (ih _ _ _) fun xs r=>ih _ _ _) ?_
   cases l with
   | nil=>exact le_refl _
   | cons t r=>
    simp only
    refine le_if (le_refl _) (le_if (le_bnd (ih _ _ _) fun xs r=>le_refl _) (le_if (le_refl _) (le_if (le_bnd (ih _ _ _) fun xs r=>le_refl _) (le_name fun s r=>?_))))
    cases r with
    | nil=>exact le_refl _
    | cons u r=>exact le_if (le_bnd (ih _ _ _) fun xs r=>le_bnd (ih _ _ _) fun ys r=>le_refl _) (le_refl _)
  | more n x=>
   unfold pF
   cases l with
   | nil=>exact le_refl _
   | cons t r=>exact le_if (le_bnd (ih _ _ _) fun ys r=>ih _ _ _) (le_refl _)
  | args xs=>
   unfold pF
   cases l with
   | nil=>exact le_refl _
   | cons t r=>exact le_if (le_bnd (ih _ _ _) fun ys r=>ih _ _ _) (le_refl _)
  | fin k a s ps=>
   unfold pF
   exact le_bnd (ih _ _ _) fun xs r=>le_refl _
  | inner=>
   unfold pF
   cases l with
   | nil=>exact le_refl _
   | cons t r=>
    exact le_if (le_refl _) (le_if (le_name fun s r=>le_must fun r=>le_bnd (ih _ _ _) fun xs r=>le_must fun r=>le_bnd (ih _ _ _) fun ys r=>le_must fun r=>le_bnd (ih _ _ _) fun zs r=>le_refl _) (le_name fun s r=>le_must fun r=>ih _ _ _))
  | inners zs=>
   unfold pF
   cases l with
   | nil=>exact le_refl _
   | cons t r=>exact le_if (le_refl _) (le_bnd (ih _ _ _) fun xs r=>ih _ _ _)
  | stmt=>
   unfold pF
   cases l with
   | nil=>exact le_refl _
   | cons t r=>
    exact le_if (le_refl _) (le_if (le_refl _) (le_if (le_name fun s r=>le_must fun r=>ih _ _ _) (le_if (le_name fun s r=>le_must fun r=>ih _ _ _)
     (le_if (le_name fun s r=>le_must fun r=>le_names (fun ps r=>le_must fun r=>le_must fun r=>ih _ _ _) _ _) (ih _ _ _)))))
  | stmts xs=>
   unfold pF
   cases l with
   | nil=>exact le_refl _
   | cons t r=>exact le_if (le_refl _) (le_bnd (ih _ _ _) fun ys r=>ih _ _ _)
theorem pF_one{num:Bs→Nat×Nat}{f g:Nat}{nt:NT}{d:Nat}{l:List Tk}{o o':Out}(h:pF num f nt d l=some o)(h':pF num g nt d l=some o'):o=o':=by
 have h1:=pF_mono num f (max f g) (Nat.le_max_left _ _) nt d l o h
 have h2:=pF_mono num g (max f g) (Nat.le_max_right _ _) nt d l o' h'
 rw [h1] at h2
 exact Option.some.inj h2
def Et(l:List Tk):Prop:=∃ u e,l=u ++ [e]∧e.k = 0∧∀ t∈u,t.k≠0
theorem et_nil:¬ Et []:=fun ⟨u,e,h,_⟩=>by cases u <;> cases h
theorem et_tail{t:Tk}{r:List Tk}(h:Et (t :: r))(ht:t.k≠0):Et r:=by
 obtain ⟨u,e,h1,h2,h3⟩:=h
 cases u with
 | nil=>simp only [List.nil_append,List.cons.injEq] at h1;rw [h1.1] at ht;exact absurd h2 ht
 | cons x u=>simp only [List.cons_append,List.cons.injEq] at h1;exact ⟨u,e,h1.2,h2,fun t ht=>h3 t (List.mem_cons_of_mem _ ht)⟩
def Gd(l:List Tk):OO→Prop
 | none=>True
 | some (.ok _ r)=>Et r∧r <:+ l
 | some (.bad a e)=>(∃ t∈l,a=t.at_)∧(e = 100∨e = 150)
theorem gd_up{l l':List Tk}{o:OO}(h:Gd l o)(hl:l <:+ l'):Gd l' o:=by
 rcases o with _ | ⟨xs,r⟩ | ⟨a,e⟩
 ·trivial
 ·exact ⟨h.1,h.2.trans hl⟩
 ·obtain ⟨⟨t,ht,ha⟩,he⟩:=h
  exact ⟨⟨t,hl.subset ht,ha⟩,he⟩
theorem gd_wrong{l:List Tk}(h:Et l){e:Nat}(he:e = 100∨e = 150):Gd l (wrong l e):=by
 cases l with
 | nil=>exact absurd h et_nil
 | cons t r=>exact ⟨⟨t,List.mem_cons_self ..,rfl⟩,he⟩
theorem gd_ok{l r:List Tk}(xs:List Tr)(h:Et r)(hl:r <:+ l):Gd l (some (.ok xs r)):=⟨h,hl⟩
theorem gd_if{l:List Tk}{c:Prop}[Decidable c]{o p:OO}(h1:c→Gd l o)(h2:¬ c→Gd l p):Gd l (if c then o else p):=by
 by_cases h:c
 ·rw [if_pos h];exact h1 h
 ·rw [if_neg h];exact h2 h
theorem gd_bnd{l:List Tk}{o:OO}{f:List Tr→List Tk→OO}(h:Gd l o)(hf:∀ xs r,Et r→r <:+ l→Gd r (f xs r)):Gd l (bnd o f):=by
 rcases o with _ | ⟨xs,r⟩ | ⟨a,e⟩
 ·trivial
 ·exact gd_up (hf xs r h.1 h.2) h.2
 ·exact h
theorem gd_must{b:Bs}{l:List Tk}{f:List Tk→OO}(h:Et l)(hf:∀ r,Et r→Gd r (f r)):Gd l (must b l f):=by
 cases l with
 | nil=>exact absurd h et_nil
 | cons t r=>
  refine gd_if (fun hb=>gd_up (hf r (et_tail h ?_)) (List.suffix_cons t r)) fun _=>gd_wrong h (.inl rfl)
  unfold isS at hb
  simp only [Bool.and_eq_true,decide_eq_true_eq] at hb
  omega
theorem gd_name{l:List Tk}{f:Bs→List Tk→OO}(h:Et l)(hf:∀ s r,Et r→Gd r (f s r)):Gd l (nameK l f):=by
 cases l with
 | nil=>exact absurd h et_nil
 | cons t r=>exact gd_if (fun hb=>gd_up (hf t.s r (et_tail h (by omega))) (List.suffix_cons t r)) fun _=>gd_wrong h (.inl rfl)
theorem is_k{b:Bs}{t:Tk}(h:isS b t=true):t.k≠0:=by
 unfold isS at h
 simp only [Bool.and_eq_true,decide_eq_true_eq] at h
 omega
theorem gd_names{f:List Bs→List Tk→OO}(hf:∀ ps r,Et r→Gd r (f ps r)):∀ (ps:List Bs) (l:List Tk),Et l→Gd l (namesK ps l f)
 | _,[],h=>absurd h et_nil
 | ps,[t],h=>by
  unfold namesK
  exact gd_if (fun hb=>absurd (et_tail h (by omega)) et_nil) fun _=>gd_wrong h (.inl rfl)
 | ps,t :: u :: r,h=>by
  unfold namesK
  refine gd_if (fun hb=>?_) fun _=>gd_wrong h (.inl rfl)
  have h2:=et_tail h (by omega)
  exact gd_if (fun hu=>gd_up (gd_names hf _ r (et_tail h2 (is_k hu))) ((List.suffix_cons u r).trans (List.suffix_cons t _))) fun _=>gd_up (hf _ _ h2) (List.suffix_cons t _)
theorem on_k{n:Nat}{t:Tk}(h:onS n t=true):t.k≠0:=by
 unfold onS at h
 simp only [Bool.and_eq_true,beq_iff_eq] at h
 omega
theorem pF_good(num:Bs→Nat×Nat):∀ (f:Nat) (nt:NT) (d:Nat) (l:List Tk),Et l→Gd l (pF num f nt d l):=by
 intro f
 induction f with
 | zero=>intros;trivial
 | succ f ih=>
  intro nt d l h
  have one:∀ {t:Tk} {r:List Tk} {o:OO},Gd r o→Gd (t :: r) o:=fun {t r o} hg=>gd_up hg (List.suffix_cons t r)
  cases l with
  | nil=>exact absurd h et_nil
  | cons t r=>
  cases nt with
  | lev n=>
   unfold pF
   refine gd_if (fun _=>gd_bnd (ih _ _ _ h) fun xs r hr _=>ih _ _ _ hr) fun _=>?_
   refine gd_if (fun _=>gd_wrong h (.inr rfl)) fun _=>gd_if (fun hs=>?_) fun _=>gd_if (fun hk=>?_) fun _=>gd_if (fun hs=>?_) fun _=>gd_name h fun s r hr=>?_
   ·have hr:Et r:=et_tail h (by
     rcases Bool.or_eq_true_iff.1 hs with hs | hs <;> exact is_k hs)
    exact one (gd_bnd (ih _ _ _ hr) fun xs r' hr' _=>gd_ok _ hr' (List.suffix_refl _))
   ·refine gd_if (fun _=>gd_ok _ (et_tail h (by omega)) (List.suffix_cons t r)) fun _=>gd_wrong h ?_
    by_cases h4:(num t.s).2 = 4
    ·rw [if_pos h4];exact .inl rfl
    ·rw [if_neg h4];exact .inr rfl
   ·exact one (gd_bnd (ih _ _ _ (et_tail h (is_k hs))) fun xs r' hr' _=>gd_must hr' fun r2 hr2=>gd_ok _ hr2 (List.suffix_refl _))
   ·cases r with
    | nil=>exact absurd hr et_nil
    | cons u r'=>
     refine gd_if (fun hu=>?_) fun _=>gd_ok _ hr (List.suffix_refl _)
     exact one (gd_bnd (ih _ _ _ (et_tail hr (is_k hu))) fun xs r2 hr2 _=>gd_bnd (ih _ _ _ hr2) fun ys r3 hr3 _=>gd_must hr3 fun r4 hr4=>gd_ok _ hr4 (List.suffix_refl _))
  | more n x=>
   unfold pF
   exact gd_if (fun hs=>one (gd_bnd (ih _ _ _ (et_tail h (on_k hs))) fun ys r' hr' _=>ih _ _ _ hr')) fun _=>gd_ok _ h (List.suffix_refl _)
  | args xs=>
   unfold pF
   exact gd_if (fun hs=>one (gd_bnd (ih _ _ _ (et_tail h (is_k hs))) fun ys r' hr' _=>ih _ _ _ hr')) fun _=>gd_ok _ h (List.suffix_refl _)
  | fin k a s ps=>
   unfold pF
   exact gd_bnd (ih _ _ _ h) fun xs r hr _=>gd_must hr fun r' hr'=>gd_ok _ hr' (List.suffix_refl _)
  | inner=>
   unfold pF
   exact gd_if (fun _=>gd_wrong h (.inr rfl)) fun _=>gd_if (fun hs=>one (gd_name (et_tail h (is_k hs)) fun s r hr=>gd_must hr fun r hr=>gd_bnd (ih _ _ _ hr) fun xs r hr _=>gd_must hr fun r hr=>gd_bnd (ih _ _ _ hr) fun ys r hr _=>gd_must hr fun r hr=>gd_bnd (ih _ _ _ hr) fun zs r hr _=>gd_ok _ hr (List.suffix_refl _)))
    fun _=>gd_name h fun s r hr=>gd_must hr fun r hr=>ih _ _ _ hr
  | inners zs=>
   unfold pF
   exact gd_if (fun hs=>gd_ok _ (et_tail h (is_k hs)) (List.suffix_cons t r)) fun _=>gd_bnd (ih _ _ _ h) fun xs r hr _=>ih _ _ _ hr
  | stmt=>
   unfold pF
   refine gd_if (fun hs=>one (gd_names (fun ps r hr=>?_) _ _ (et_tail h (is_k hs)))) fun _=>gd_if (fun hs=>one (gd_names (fun ps r hr=>?_) _ _ (et_tail h (is_k hs)))) fun _=>gd_if (fun hs=>one (gd_name (et_tail h (is_k hs)) fun s r hr=>?_)) fun _=>
    gd_if (fun hs=>one (gd_name (et_tail h (is_k hs)) fun s r hr=>?_)) fun _=>gd_if (fun hs=>one (gd_name (et_tail h (is_k hs)) fun s r hr=>?_)) fun _=>ih _ _ _ h
   ·exact gd_must hr fun r hr=>gd_ok _ hr (List.suffix_refl _)
   ·exact gd_must hr fun r hr=>gd_ok _ hr (List.suffix_refl _)
   ·exact gd_must hr fun r hr=>ih _ _ _ hr
   ·exact gd_must hr fun r hr=>ih _ _ _ hr
   ·refine gd_must hr fun r hr=>gd_names (fun ps r hr=>?_) _ _ hr
    exact gd_must hr fun r hr=>gd_must hr fun r hr=>ih _ _ _ hr
  | stmts xs=>
   unfold pF
   exact gd_if (fun _=>gd_ok _ h (List.suffix_refl _)) fun _=>gd_bnd (ih _ _ _ h) fun ys r hr _=>ih _ _ _ hr
section
variable {e : Tk} {l2 : List Tk}
end
def NT.looks:NT→Prop
 | .lev _=>True
 | .more _ _=>True
 | .args _=>True
 | _=>False
def pre(a:List Tr):Out→Out
 | .ok l r=>.ok (a ++ l) r
 | .bad p e=>.bad p e
theorem words_et{s:Bs}(h:(wordsL s).er = 0):Et (wordsL s).l:=by
 obtain ⟨hne,ho⟩:=words_order s h
 refine ⟨(wordsL s).l.dropLast,(wordsL s).l.getLast hne,(List.dropLast_concat_getLast hne).symm,?_,fun t ht=>?_⟩
 ·have hl:=List.length_pos_iff.2 hne
  have hx:(wordsL s).l[(wordsL s).l.length - 1]?=some ((wordsL s).l.getLast hne):=by
   rw [List.getLast_eq_getElem,List.getElem?_eq_getElem (by omega)]
  exact ((ho _ _ hx).2.2.1).2 (by omega)
 ·obtain ⟨j,hj,hjt⟩:=List.getElem_of_mem ht
  rw [List.length_dropLast] at hj
  rw [List.getElem_dropLast] at hjt
  have hx:(wordsL s).l[j]?=some t:=by rw [List.getElem?_eq_getElem (by omega),hjt]
  intro hk
  have:=((ho j t hx).2.2.1).1 hk
  omega
theorem tells{num:Bs→Nat×Nat}{s:Bs}(h:(wordsL s).er = 0){f d a e:Nat}{nt:NT}(hp:pF num f nt d (wordsL s).l=some (.bad a e)):a≤s.length∧(e = 100∨e = 150):=by
 have hg:=pF_good num f nt d _ (words_et h)
 rw [hp] at hg
 obtain ⟨⟨t,ht,rfl⟩,he⟩:=hg
 obtain ⟨j,hj,hjt⟩:=List.getElem_of_mem ht
 have:=((words_order s h).2 j t (by rw [List.getElem?_eq_getElem hj,hjt])).1
 exact ⟨by omega,he⟩
end Go.Proofs.YtpoepignpdfleaaGreatDoor.Pa
