/- DERIVED. LxTk, Round. By an AI agent. -/
import Derived.Test.YtdhoemlomojfaaaGreatDoorW01
import Derived.Test.YtdhoemlomojfaaaGreatDoorW37
import Derived.RangeFuncNested
import Derived.OwnWalkIn
import Derived.TacticsInMore
import Derived.OrdersIn
import Derived.Deep.RegionHeld3
set_option maxRecDepth 100000
set_option maxHeartbeats 4000000
set_option linter.unusedVariables false
set_option linter.unusedSimpArgs false
namespace Go.Proofs.YtdhoemlomojfaaaGreatDoor.Lx
open Go Go.ChangeShapes Go.WideShapes Go.ChangeAt Go.RowKit Go.Shelf Args
section
attribute [local go_sem] Oper.semAt_some
def Arr(W:World)(lb k:Nat):Prop:=∃ o n c,W.cell? ⟨lb,0,none⟩=some (.slice (some ⟨k,o,none⟩) n c)
structure KA(lb:Nat)(W W':World):Prop where
 size:W.heap.size≤W'.heap.size
 arr:∀ k,Arr W' lb k→Arr W lb k∨W.heap.size≤k
 wf:(∀ k,Arr W lb k→k < W.heap.size)→∀ k,Arr W' lb k→k < W'.heap.size
 keep:∀ k o,k≠lb→¬ Arr W lb k→W.heap[k]?=some o→o.isCells=true→W'.heap[k]?=some o
theorem ka_t{lb:Nat}{A B C:World}(h:KA lb A B)(k:KA lb B C):KA lb A C:=by
 refine ⟨Nat.le_trans h.size k.size,fun i hi=>?_,fun hw=>k.wf (h.wf hw),fun i o h1 h2 h3 h4=>?_⟩
 ·rcases k.arr i hi with h1 | h1
  ·exact h.arr i h1
  ·exact .inr (Nat.le_trans h.size h1)
 ·refine k.keep i o h1 (fun ha=>?_) (h.keep i o h1 h2 h3 h4) h4;rcases h.arr i ha with h5 | h5
  ·exact h2 h5
  ·have:=(Array.getElem?_eq_some_iff.1 h3).1;omega
theorem arr_eq{W W':World}{lb k:Nat}(h:W'.heap[lb]?=W.heap[lb]?):Arr W' lb k↔Arr W lb k:=by
 unfold Arr;rw [World.cell?_of_block (a:=⟨lb,0,none⟩) h]
theorem ka_quiet{lb:Nat}{W W':World}(hs:W.heap.size≤W'.heap.size)(hb:W'.heap[lb]?=W.heap[lb]?)(hk:∀ (k:Nat) (o:Obj),W.heap[k]?=some o→o.isCells=true→W'.heap[k]?=some o):KA lb W W':=
 ⟨hs,fun k h=>.inl ((arr_eq hb).1 h),fun hw k h=>Nat.lt_of_lt_of_le (hw k ((arr_eq hb).1 h)) hs,fun k o _ _ h1 h2=>hk k o h1 h2⟩
theorem ka_b{lb:Nat}{w:World}(hn:lb < w.heap.size)(W:World)(l:Nat)(o o':Obj)(hl:w.heap.size≤l)(h:W.heap[l]?=some o)(hc:o.isCells=false)(_:o.isWalk=false):KA lb W (W.putObj l o'):=by
 have hll:=(Array.getElem?_eq_some_iff.1 h).1;refine ka_quiet (by rw [World.putObj_size];exact Nat.le_refl _) (World.putObj_heap_other (by omega)) (fun k o2 h1 h2=>?_);by_cases e:k=l
 ·subst e;rw [h] at h1;cases h1;rw [hc] at h2;cases h2
 ·exact (World.putObj_heap_other e).trans h1
theorem ka_alloc{lb:Nat}{W:World}(hn:lb < W.heap.size)(o:Obj):KA lb W (W.alloc o):=
 ka_quiet (by simp) (Below.heap_alloc W o lb hn) (fun k o2 h1 _=>(Below.heap_alloc W o k (Array.getElem?_eq_some_iff.1 h1).1).trans h1)
def encT(x:Tk×Nat):Array Value:=#[.agg #[.int .i64 (x.1.k:Int),.string ⟨x.1.s.toArray⟩,.int .i64 (x.1.at_:Int)],.int .i64 (x.2:Int)]
theorem grown_below{W W':World}(h:Below W.heap.size W W'):W.grownBy W' none:=⟨h.os,h.tape,h.output,h.size,fun k hk _=>h.block k hk⟩
structure TkI(lb Bx:Nat)(s:ByteArray)(w:World):Prop where
 lt:lb < w.heap.size
 wf:∀ k,Arr w lb k→k < w.heap.size
 box:Blk w Bx 9 #[.string s]
 ne:Bx≠lb
 far:¬ Arr w lb Bx
theorem TkI.below{lb Bx:Nat}{s:ByteArray}{w w':World}(h:TkI lb Bx s w)(hb:Below w.heap.size w w'):TkI lb Bx s w':=by
 have e:=hb.block lb h.lt;exact ⟨Nat.lt_of_lt_of_le h.lt hb.size,fun k hk=>Nat.lt_of_lt_of_le (h.wf k ((arr_eq e).1 hk)) hb.size,h.box.below hb h.box.lt,h.ne,fun ha=>h.far ((arr_eq e).1 ha)⟩
theorem TkI.ka{lb Bx:Nat}{s:ByteArray}{w w':World}(h:TkI lb Bx s w)(hk:KA lb w w'):TkI lb Bx s w':=
 ⟨Nat.lt_of_lt_of_le h.lt hk.size,hk.wf h.wf,hk.keep Bx _ h.ne h.far h.box rfl,h.ne,fun ha=>by
  rcases hk.arr Bx ha with h1 | h1
  ·exact h.far h1
  ·have:=h.box.lt;omega⟩
theorem tokens1(n:Nat)(hn:1≤n)(l lb Bx:Nat)(s:ByteArray)(hs:s.size≤20000)(J Jx:List (Tk×Nat)→World→Prop)
  (hJ:∀ pre W W',J pre W→W.grownBy W' none→J pre W')
  (hY:∀ pre x W,J pre W→pre.length < (itemsL s.data.toList).length→YieldAt Fence.wide (n - 1) Tryz.prog l (encT x) W fun e W'=>
   (e = .returned (.bool true)∧J (pre ++ [x]) W'∧KA lb W W')∨(e = .returned (.bool false)∧Jx (pre ++ [x]) W'))
  (W:World) (hI:TkI lb Bx s W) (h0:J [] W) :
  CallsIn Fence.wide n Tryz.prog 103 #[.func (.yield l) #[] #[],.pointer (some ⟨Bx,0,none⟩)] W fun e W'=>(∃ v,e = .returned v) ∧
   ((∃ ys,ys=itemsL s.data.toList∧J ys W')∨(∃ pre,pre <+: itemsL s.data.toList∧Jx pre W')):=by
 refine callsIn_of_wp Tryz.func103 rfl trivial ?_ rfl;simp only [Tryz.ntmps103,List.size_toArray,List.length_cons,List.length_nil,Nat.reduceAdd,Nat.reduceSub,Array.replicate_succ,Array.replicate_zero,List.push_toArray,List.append_toArray,List.nil_append,List.cons_append];have HJ:=Hi hJ;have HY:=Hi hY;have HI:=Hi hI;have H0:=Hi h0;have c0:W.cell? ⟨Bx,0,none⟩=some (.string s):=hI.box.cell 0;have HP:=Hi (passed s (by omega) W);have hrl:=rest_le s.data.toList;have hsz:=size_len s;have HS0:Hid ((restL s.data.toList).length < s.data.toList.length+1∧skipL false s.data.toList+(restL s.data.toList).length=s.size):=Hi ⟨by omega,by
  have:=skipL_le false s.data.toList;unfold restL;rw [List.length_drop];omega⟩
 clear hJ hY hI h0 hrl
 gi_wp2_with (refine ⟨trivial,?_⟩;gi_at_call 104;refine (callsIn_wide.2 HP.out).mono ?_;rintro e w1 ⟨rfl,hb1⟩)
 have HJ1:=Hi (HJ.out _ _ _ H0.out (grown_below hb1));have HI1:=Hi (HI.out.below hb1);clear hb1 c0
 gi_loopw [3] (fun vr wr=>∃ (pre:List (Tk×Nat)) (R:Bs) (f i:Nat),vr = .string ⟨R.toArray⟩∧i+R.length=s.size∧Hid (pre ++ goI f R i=itemsL s.data.toList∧R.length < f∧J pre wr∧TkI lb Bx s wr))
  (fun vr _=>szOf vr)
 case atStart=>exact ⟨[],restL s.data.toList,s.data.toList.length+1,skipL false s.data.toList,rfl,HS0.out.2,Hi ⟨rfl,HS0.out.1,HJ1.out,HI1.out⟩⟩
 case round=>
  clear HJ1 HI1 HS0 HP H0;obtain ⟨pre,R,f,i,rfl,hiR,HH⟩:=hrel;have c0:wr.cell? ⟨Bx,0,none⟩=some (.string s):=HH.out.2.2.2.box.cell 0;by_cases hR0:R=[]
  ·subst hR0;have hpre:=HH.out.1;obtain ⟨f,rfl⟩:∃ g,f=g+1:=⟨f - 1,by have:=HH.out.2.1;omega⟩;rw [goI_nil] at hpre;have his:i=s.size:=by simpa using hiR
   subst his;have HPR:=Hi hpre;obtain ⟨fn,tmps,assign,body,hy0,hRn⟩:=HY.out pre (⟨0,[],s.size⟩,0) wr HH.out.2.2.1 (by rw [←hpre];simp);have hy:(Instr.yield l #[.agg #[.int .i64 0,.string ⟨#[]⟩,.int .i64 (s.size:Int)],.int .i64 0]).run Tryz.prog wr = .ok (.round l fn tmps assign body) wr:=hy0;clear hpre hy0
   gi_wp2
   refine hRn.mono ?_;rintro e W3 (⟨rfl,hJ3,hk3⟩ | ⟨rfl,hJx3⟩)
   ·gi_wp2
    go_end0
    exact ⟨⟨_,rfl⟩,.inl ⟨_,HPR.out,hJ3⟩⟩
   ·gi_wp2
    go_end0
    exact ⟨⟨_,rfl⟩,.inr ⟨_,⟨[],by rw [List.append_nil];exact HPR.out⟩,hJx3⟩⟩
  ·obtain ⟨c,r,hcr⟩:∃ c r,R=c :: r:=by
    cases R with
    | nil=>exact absurd rfl hR0
    | cons c r=>exact ⟨c,r,rfl⟩
   have hne:(R==[])=false:=by rw [hcr];rfl
   obtain ⟨f,rfl⟩:∃ g,f=g+1:=⟨f - 1,by have:=HH.out.2.1;omega⟩;have hpre:=HH.out.1;have hi:(i:Int)=(s.size:Int) - (R.length:Int):=by omega
   have hfi:=first ⟨R.toArray⟩ c r (by rw [bs_size];omega) hcr wr;have HCR:=Hi hcr;have hlt0:=HH.out.2.2.2.box.lt;have hlb0:=HH.out.2.2.2.lt;rcases ht:tokC c r with _ | ⟨k,m⟩
   ·rw [hcr,goI_none ht] at hpre;have HPR:=Hi hpre;have HYX:Hid (∀ w2,Below wr.heap.size wr w2→∃ fn tmps assign body,(Instr.yield l #[.agg #[.int .i64 0,.string ⟨#[]⟩,.int .i64 ((s.size:Int) - (R.length:Int))],.int .i64 100]).run Tryz.prog (w2.alloc (.cells #[.int .i64 0,.string ⟨#[]⟩,.int .i64 ((s.size:Int) - (R.length:Int))] 134)) = .ok (.round l fn tmps assign body) (w2.alloc (.cells #[.int .i64 0,.string ⟨#[]⟩,.int .i64 ((s.size:Int) - (R.length:Int))] 134)) ∧
      RoundIn Fence.wide (n - 1) Tryz.prog l fn tmps assign body (w2.alloc (.cells #[.int .i64 0,.string ⟨#[]⟩,.int .i64 ((s.size:Int) - (R.length:Int))] 134)) fun e W'=>(e = .returned (.bool true)∧J (pre ++ [(⟨0,[],i⟩,100)]) W')∨(e = .returned (.bool false)∧Jx (pre ++ [(⟨0,[],i⟩,100)]) W')):=Hi fun w2 hb2=>by
     obtain ⟨W3,hW3⟩:∃ W3,w2.alloc (.cells #[.int .i64 0,.string ⟨#[]⟩,.int .i64 ((s.size:Int) - (R.length:Int))] 134)=W3:=⟨_,rfl⟩;rw [hW3];obtain ⟨fn,tmps,assign,body,hy,hRn⟩:=HY.out pre (⟨0,[],i⟩,100) W3 (HJ.out _ _ _ HH.out.2.2.1 (grown_below (by rw [←hW3];exact hb2.alloc hb2.size _))) (by rw [←HPR.out];simp);have hy2:(Instr.yield l #[.agg #[.int .i64 0,.string ⟨#[]⟩,.int .i64 (i:Int)],.int .i64 100]).run Tryz.prog W3 = .ok (.round l fn tmps assign body) W3:=hy;rw [hi] at hy2;exact ⟨fn,tmps,assign,body,hy2,hRn.mono fun e W' h=>h.imp (fun h=>⟨h.1,h.2.1⟩) id⟩
    rw [show FtV (firstL c r) = .tuple #[.agg #[.int .i64 0,.string ⟨#[]⟩,.int .i64 0],.int .i64 100] by unfold firstL;rw [ht];rfl] at hfi;have HFI:=Hi hfi;have hszw:=HH.out.2.2.2.box;have HBX:=Hi hszw;clear hpre hfi ht hcr hi hszw
    gi_wp2_with (refine ⟨trivial,?_⟩;gi_at_call 105;refine (callsIn_wide.2 HFI.out).mono ?_;rintro e w2 ⟨rfl,hb2⟩;obtain ⟨fn,tmps,assign,body,hy,hRn⟩:=HYX.out w2 hb2;have cb:w2.cell? ⟨Bx,0,none⟩=some (.string s):=(HBX.out.below hb2 hlt0).cell 0;have hlt2:Bx < w2.heap.size:=Nat.lt_of_lt_of_le hlt0 hb2.size;clear hb2)
    refine hRn.mono ?_;rintro e W3 (⟨rfl,hJ3⟩ | ⟨rfl,hJx3⟩)
    ·gi_wp2
     refine bodyPost_ret (results_none rfl _ _ _) rfl ?_;exact ⟨⟨_,rfl⟩,.inl ⟨_,HPR.out,hJ3⟩⟩
    ·gi_wp2
     refine bodyPost_ret (results_none rfl _ _ _) rfl ?_;exact ⟨⟨_,rfl⟩,.inr ⟨_,⟨[],by rw [List.append_nil];exact HPR.out⟩,hJx3⟩⟩
   ·have hm:=tok_len ht;have hrl:=rest_len (f:=f) ht (by rw [←hcr];exact HH.out.2.1);rw [hcr,goI_some ht] at hpre;rw [←hcr] at hpre hrl hm;have hdl:(R.drop m).length=R.length - m:=List.length_drop;have hsl:=skipL_le false (R.drop m);obtain ⟨D,hD⟩:∃ D,R.drop m=D:=⟨_,rfl⟩;rw [hD] at hpre hrl hdl hsl;have hX:(R.take m).length=m:=by rw [List.length_take];omega
    obtain ⟨X,hXX⟩:∃ X,R.take m=X:=⟨_,rfl⟩;rw [hXX] at hpre hX;have hi2:i+m+skipL false D+(restL D).length=s.size:=by unfold restL;rw [List.length_drop];omega
    have hrd:(restL D).length < R.length:=by have:=rest_le D;omega
    have hsf:∀ W,(Instr.slice 9 (.string ⟨R.toArray⟩) (some (.int .i64 (X.length:Int))) none none).run Tryz.prog W = .ok (.string ⟨D.toArray⟩) W:=fun W=>by
     have:=slice_from R X.length (by rw [hX];omega) W;rw [hX,hD] at this;rw [hX];exact this
    have hXl:X.length≤R.length:=by omega
    have HPR:=Hi hpre;have HYX:Hid (∀ w2,Below wr.heap.size wr w2→∃ fn tmps assign body,(Instr.yield l #[.agg #[.int .i64 (k:Int),.string ⟨X.toArray⟩,.int .i64 ((s.size:Int) - (R.length:Int))],.int .i64 0]).run Tryz.prog (w2.alloc (.cells #[.int .i64 (k:Int),.string ⟨X.toArray⟩,.int .i64 ((s.size:Int) - (R.length:Int))] 134)) = .ok (.round l fn tmps assign body) (w2.alloc (.cells #[.int .i64 (k:Int),.string ⟨X.toArray⟩,.int .i64 ((s.size:Int) - (R.length:Int))] 134)) ∧
      RoundIn Fence.wide (n - 1) Tryz.prog l fn tmps assign body (w2.alloc (.cells #[.int .i64 (k:Int),.string ⟨X.toArray⟩,.int .i64 ((s.size:Int) - (R.length:Int))] 134)) fun e W'=>(e = .returned (.bool true)∧J (pre ++ [(⟨k,X,i⟩,0)]) W'∧TkI lb Bx s W'∧W'.cell? ⟨w2.heap.size,1,none⟩=some (.string ⟨X.toArray⟩))∨(e = .returned (.bool false)∧Jx (pre ++ [(⟨k,X,i⟩,0)]) W')):=Hi fun w2 hb2=>by
     obtain ⟨W3,hW3⟩:∃ W3,w2.alloc (.cells #[.int .i64 (k:Int),.string ⟨X.toArray⟩,.int .i64 ((s.size:Int) - (R.length:Int))] 134)=W3:=⟨_,rfl⟩;have hb3:Below wr.heap.size wr W3:=by rw [←hW3];exact hb2.alloc hb2.size _
     have hI2:=HH.out.2.2.2.below hb2;have hI3:=HH.out.2.2.2.below hb3;have hB3:Blk W3 w2.heap.size 134 #[.int .i64 (k:Int),.string ⟨X.toArray⟩,.int .i64 ((s.size:Int) - (R.length:Int))]:=by rw [←hW3];exact Blk.new _ _ _
     have hna:¬ Arr W3 lb w2.heap.size:=fun ha=>by
      have e3:W3.heap[lb]?=w2.heap[lb]?:=by rw [←hW3];exact Below.heap_alloc _ _ _ hI2.lt
      have:=hI2.wf _ ((arr_eq e3).1 ha);omega
     have hnl:w2.heap.size≠lb:=by have:=hI2.lt;omega
     rw [hW3];obtain ⟨fn,tmps,assign,body,hy,hRn⟩:=HY.out pre (⟨k,X,i⟩,0) W3 (HJ.out _ _ _ HH.out.2.2.1 (grown_below hb3)) (by rw [←HPR.out];simp);have hy2:(Instr.yield l #[.agg #[.int .i64 (k:Int),.string ⟨X.toArray⟩,.int .i64 (i:Int)],.int .i64 0]).run Tryz.prog W3 = .ok (.round l fn tmps assign body) W3:=hy;rw [hi] at hy2;refine ⟨fn,tmps,assign,body,hy2,hRn.mono fun e W' h=>h.imp (fun h=>⟨h.1,h.2.1,hI3.ka h.2.2,?_⟩) id⟩;exact (show Blk W' w2.heap.size 134 _ from h.2.2.keep _ _ hnl hna hB3 rfl).cell 1
    rw [show FtV (firstL c r) = .tuple #[.agg #[.int .i64 (k:Int),.string ⟨X.toArray⟩,.int .i64 0],.int .i64 0] by unfold firstL;rw [ht];show FtV (some (k,(c :: r).take m))=_;rw [←hcr,hXX];rfl] at hfi;have HFI:=Hi hfi;have hszw:=HH.out.2.2.2.box;have HBX:=Hi hszw;have HPD:=Hi (passed ⟨D.toArray⟩ (by rw [bs_size];omega));have HR:Hid ((restL D).length < f):=Hi hrl;clear hpre hfi ht hcr hi hszw hX hXX hD hdl hsl hm hrl
    gi_wp2_with (refine ⟨trivial,?_⟩;gi_at_call 105;refine (callsIn_wide.2 HFI.out).mono ?_;rintro e w2 ⟨rfl,hb2⟩;obtain ⟨fn,tmps,assign,body,hy,hRn⟩:=HYX.out w2 hb2;have cb:w2.cell? ⟨Bx,0,none⟩=some (.string s):=(HBX.out.below hb2 hlt0).cell 0;have hlt2:Bx < w2.heap.size:=Nat.lt_of_lt_of_le hlt0 hb2.size;clear hb2)
    refine hRn.mono ?_;rintro e W3 (⟨rfl,hJ3,hI3,d1⟩ | ⟨rfl,hJx3⟩)
    ·gi_wp2_with (refine ⟨trivial,?_⟩;gi_at_call 104;refine (callsIn_wide.2 (HPD.out _)).mono ?_;rintro e w4 ⟨rfl,hb4⟩)
     have HJ4:=Hi (HJ.out _ _ _ hJ3 (grown_below hb4));have HI4:=Hi (hI3.below hb4)
     go_roundw
     case rel=>exact ⟨pre ++ [(⟨k,X,i⟩,0)],restL D,f,i+m+skipL false D,rfl,hi2,Hi ⟨by rw [←HPR.out];simp,HR.out,HJ4.out,HI4.out⟩⟩
     case measure=>
      show (⟨(restL D).toArray⟩:ByteArray).size < (⟨R.toArray⟩:ByteArray).size;rw [bs_size,bs_size];exact hrd
    ·gi_wp2
     refine bodyPost_ret (results_none rfl _ _ _) rfl ?_;exact ⟨⟨_,rfl⟩,.inr ⟨_,⟨goI f (restL D) (i+m+skipL false D),by rw [←HPR.out];simp⟩,hJx3⟩⟩
theorem ptokens(s:ByteArray)(w:World):Calls Tryz.prog 83 #[.string s] w fun e w'=>e = .returned (.func (.func 103) #[] #[.pointer (some ⟨w.heap.size,0,none⟩)])∧w'=w.alloc (.cells #[.string s] 9):=by
 go_enter Tryz.func83,Tryz.ntmps83;go_wp2_with fail
 go_ret;exact ⟨rfl,rfl⟩
theorem tokens_stops(n:Nat)(hn:1≤n)(lb Bx:Nat)(s:ByteArray)(hs:s.size≤20000)(w:World)(hI:TkI lb Bx s w) :
  SeqStopsK Fence.wide n Tryz.prog 103 #[.pointer (some ⟨Bx,0,none⟩)] encT (KA lb) (fun ys=>ys=itemsL s.data.toList) (fun pre=>pre <+: itemsL s.data.toList) (itemsL s.data.toList).length w:=fun l J Jx W hW hJ _ hY h0=>
 tokens1 n hn l lb Bx s hs J Jx (fun pre A B h1 h2=>hJ pre A B none h1 h2 nofun) hY W (hI.below hW) h0
end
end Go.Proofs.YtdhoemlomojfaaaGreatDoor.Lx
namespace Go.Proofs.YtdhoemlomojfaaaGreatDoor.Rd
open Go
theorem oper_in{l n:Nat}{P:Program}{o:Oper}{a:Act}{w:World}{K:Act→World→Prop}{Q:Exit→Act→World→Prop}(hd:∀ c,o.op≠.defer c)(h:o.wp P a w K Q) :
  o.wpIn (Fence.wide.inRound l) n P a w K Q:=by
 unfold Oper.wp at h;unfold Oper.wpIn;refine ⟨fun _ _=>trivial,?_⟩;rw [show (Fence.wide.inRound l).round=some l from rfl,Oper.semAt_some l _ _ hd];generalize (execOp a.eval o).run P w=r at *;cases r with
 | ok x w'=>
  cases x <;> simp only [Oper.upon,Oper.uponIn] at h ⊢ <;>
   first
    | exact h
    | exact ⟨fun h=>(by cases h),callsIn_wide.2 h⟩
    | exact ⟨fun h=>(by cases h),fun c cs _=>by obtain ⟨v,w'',r1,r2⟩:=h c cs;exact ⟨v,w'',r1,stepsIn_wide.2 r2⟩⟩
    | exact h.elim
 | halt x w'=>cases x <;> simp only [Oper.upon,Oper.uponIn] at h ⊢ <;> first | exact h | exact h.elim
def noDefer(ops:Array Oper):Bool:=ops.toList.all fun o=>match o.op with | .defer _=>false | _=>true
theorem noDefer_at{ops:Array Oper}(h:noDefer ops=true){j:Nat}{o:Oper}(ho:ops[j]?=some o):∀ c,o.op≠.defer c:=fun c hc=>by
 have hm:o∈ops.toList:=by
  rw [←Array.getElem?_toList] at ho;exact List.mem_of_getElem? ho
 have:=List.all_eq_true.1 h o hm;rw [hc] at this;cases this
theorem any_in{l n:Nat}{P:Program}{md:Region.Mode}{ops:Array Oper}{Q:Exit→Act→World→Prop}(hd:noDefer ops=true)(hQ:¬ LetsOut Q) :
  ∀ (f:Nat) (listed:Array Bool) (a:Act) (w:World),wpAny P md ops Q f listed a w→wpAnyIn (Fence.wide.inRound l) n P md ops Q f listed a w
 | 0,listed,a,w,h=>h
 | f+1,listed,a,w,h=>⟨h.1,fun i hi=>by
  have h1:=wpOp_mono (fun a w h=>any_in (l:=l) (n:=n) hd hQ f _ a w h) (h.2 i hi);unfold wpOp at h1;unfold wpOpIn;cases ho:ops[i]? with
  | none=>rw [ho] at h1;exact h1
  | some o=>
   rw [ho] at h1;dsimp only at h1 ⊢;by_cases hw:Region.wanted o (yielded ops a.tmps)=true
   ·rw [if_pos hw] at h1 ⊢;rcases h1 with h1 | ⟨_,h1⟩
    ·exact oper_in (noDefer_at hd ho) h1
    ·exact absurd h1 hQ
   ·rw [if_neg hw] at h1 ⊢;exact ⟨fun _ _=>trivial,h1⟩⟩
theorem region_in{l n:Nat}{P:Program}{ops:Array Oper}{Q:Exit→Act→World→Prop}{S:World→Prop}{id:Nat}{a:Act}{w:World}(hm:P.follows .mixedOrders=true)(hd:noDefer ops=true)(hQ:¬ LetsOut Q)(hS:S w.drew)
  (h:S w.drew→wpAnyH P .any ops Q S ops.size (Array.replicate ops.size false) a w.drew):(Code.region id ops true).wpIn (Fence.wide.inRound l) n P Q a w:=
 wpIn_region_any hm (any_in hd hQ _ _ _ _ (wpAny_of_held _ _ _ _ (h hS)))
end Go.Proofs.YtdhoemlomojfaaaGreatDoor.Rd
