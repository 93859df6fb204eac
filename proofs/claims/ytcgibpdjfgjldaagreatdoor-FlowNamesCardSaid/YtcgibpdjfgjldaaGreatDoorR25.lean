/- DERIVED. LxTk, Round, LxWp, PaCl, PaRead. By an AI agent. -/
import Derived.Test.YtcgibpdjfgjldaaGreatDoorR24
import Derived.Test.YtcgibpdjfgjldaaGreatDoorR23
import Derived.OrdersIn
import Derived.Deep.RegionHeld3
set_option maxRecDepth 100000
set_option maxHeartbeats 8000000
set_option linter.unusedVariables false
set_option linter.unusedSimpArgs false
namespace Go.Proofs.YtcgibpdjfgjldaaGreatDoor
namespace Lx
open Go Go.ChangeShapes Go.WideShapes Go.ChangeAt Go.RowKit Go.Shelf Args
section
attribute [local go_sem] Oper.semAt_some
def Arr(W:World)(lb k:Nat):Prop:=∃ o n c,W.cell? ⟨lb,0,none⟩=some (.slice (some ⟨k,o,none⟩) n c)
structure KA(lb:Nat)(W W':World):Prop where
 size:W.heap.size<=W'.heap.size
 arr:∀ k,Arr W' lb k->Arr W lb k\/W.heap.size<=k
 wf:(∀ k,Arr W lb k->k < W.heap.size)->∀ k,Arr W' lb k->k < W'.heap.size
 keep:∀ k o,k≠lb->¬ Arr W lb k->W.heap[k]?=some o->o.isCells=true->W'.heap[k]?=some o
theorem ka_t{lb:Nat}{A B C:World}(h:KA lb A B)(k:KA lb B C):KA lb A C:=by
 refine ⟨Nat.le_trans h.size k.size,fun i hi=>?_,fun hw=>k.wf (h.wf hw),fun i o h1 h2 h3 h4=>?_⟩
 ·rcases k.arr i hi with h1 | h1
  ·exact h.arr i h1
  ·exact .inr (Nat.le_trans h.size h1)
 ·refine k.keep i o h1 (fun ha=>?_) (h.keep i o h1 h2 h3 h4) h4;rcases h.arr i ha with h5 | h5
  ·exact h2 h5
  ·have:=(Array.getElem?_eq_some_iff.1 h3).1;omega
theorem q4f{W W':World}{lb k:Nat}(h:W'.heap[lb]?=W.heap[lb]?):Arr W' lb k↔Arr W lb k:=by
 unfold Arr;rw [World.cell?_of_block (a:=⟨lb,0,none⟩) h]
theorem q5d{lb:Nat}{W W':World}(hs:W.heap.size<=W'.heap.size)(hb:W'.heap[lb]?=W.heap[lb]?)(hk:∀ (k:Nat) (o:Obj),W.heap[k]?=some o->o.isCells=true->W'.heap[k]?=some o):KA lb W W':=
 ⟨hs,fun k h=>.inl ((q4f hb).1 h),fun hw k h=>Nat.lt_of_lt_of_le (hw k ((q4f hb).1 h)) hs,fun k o _ _ h1 h2=>hk k o h1 h2⟩
theorem ka_b{lb:Nat}{w:World}(hn:lb < w.heap.size)(W:World)(l:Nat)(o o':Obj)(hl:w.heap.size<=l)(h:W.heap[l]?=some o)(hc:o.isCells=false)(_:o.isWalk=false):KA lb W (W.putObj l o'):=by
 have hll:=(Array.getElem?_eq_some_iff.1 h).1;refine q5d (by rw [World.putObj_size];exact Nat.le_refl _) (World.putObj_heap_other V0) (fun k o2 h1 h2=>?_);by_cases e:k=l
 ·subst e;rw [h] at h1;cases h1;rw [hc] at h2;cases h2
 ·exact (World.putObj_heap_other e).trans h1
theorem q7T{lb:Nat}{W:World}(hn:lb < W.heap.size)(o:Obj):KA lb W (W.alloc o):=
 q5d V3 (Below.heap_alloc W o lb hn) (fun k o2 h1 _=>(Below.heap_alloc W o k (Array.getElem?_eq_some_iff.1 h1).1).trans h1)
def encT(x:Tk×Nat):Array Value:=#[.agg #[.int .i64 (x.1.k:Int),.string ⟨x.1.s.toArray⟩,.int .i64 (x.1.at_:Int)],.int .i64 (x.2:Int)]
theorem q1k{W W':World}(h:Below W.heap.size W W'):W.grownBy W' none:=⟨h.os,h.tape,h.output,h.size,fun k hk _=>h.block k hk⟩
structure TkI(lb Bx:Nat)(s:ByteArray)(w:World):Prop where
 lt:lb < w.heap.size
 wf:∀ k,Arr w lb k->k < w.heap.size
 box:Aa w Bx 9 #[.string s]
 ne:Bx≠lb
 far:¬ Arr w lb Bx
theorem TkI.below{lb Bx:Nat}{s:ByteArray}{w w':World}(h:TkI lb Bx s w)(hb:Below w.heap.size w w'):TkI lb Bx s w':=by
 have e:=hb.block lb h.lt;exact ⟨Nat.lt_of_lt_of_le h.lt hb.size,fun k hk=>Nat.lt_of_lt_of_le (h.wf k ((q4f e).1 hk)) hb.size,h.box.below hb h.box.lt,h.ne,fun ha=>h.far ((q4f e).1 ha)⟩
theorem TkI.ka{lb Bx:Nat}{s:ByteArray}{w w':World}(h:TkI lb Bx s w)(hk:KA lb w w'):TkI lb Bx s w':=
 ⟨Nat.lt_of_lt_of_le h.lt hk.size,hk.wf h.wf,hk.keep Bx _ h.ne h.far h.box rfl,h.ne,fun ha=>by
  rcases hk.arr Bx ha with h1 | h1
  ·exact h.far h1
  ·have:=h.box.lt;omega⟩
theorem tokens1(n:Nat)(hn:1<=n)(l lb Bx:Nat)(s:ByteArray)(hs:s.size<=20000)(J Jx:List (Tk×Nat)->World->Prop)
  (hJ:∀ pre W W',J pre W->W.grownBy W' none->J pre W')
  (hY:∀ pre x W,J pre W->pre.length < (bV s.data.toList).length->YieldAt Fence.wide (n - 1) Tryz.prog l (encT x) W fun e W'=>
   (e = .returned (.bool true)/\J (pre ++ [x]) W'/\KA lb W W')\/(e = .returned (.bool false)/\Jx (pre ++ [x]) W'))
  (W:World) (hI:TkI lb Bx s W) (h0:J [] W) :
  CallsIn Fence.wide n Tryz.prog 155 #[.func (.yield l) #[] #[],.pointer (some ⟨Bx,0,none⟩)] W fun e W'=>(∃ v,e = .returned v) /\
   ((∃ ys,ys=bV s.data.toList/\J ys W')\/(∃ pre,pre <+: bV s.data.toList/\Jx pre W')):=by
 refine callsIn_of_wp Tryz.func155 rfl trivial ?_ rfl;simp only [Tryz.ntmps155,List.size_toArray,List.length_cons,List.length_nil,Nat.reduceAdd,Nat.reduceSub,Array.replicate_succ,Array.replicate_zero,List.push_toArray,List.append_toArray,List.nil_append,List.cons_append];have HJ:=Hi hJ;have HY:=Hi hY;have HI:=Hi hI;have H0:=Hi h0;have c0:W.cell? ⟨Bx,0,none⟩=some (.string s):=hI.box.cell 0;have HP:=Hi (passed s V0 W);have hrl:=q2B s.data.toList;have hsz:=q1H s;have HS0:Hid ((aZ s.data.toList).length < s.data.toList.length+1/\aj false s.data.toList+(aZ s.data.toList).length=s.size):=Hi ⟨V0,by
  have:=q0I false s.data.toList;unfold aZ;rw [List.length_drop];omega⟩
 clear hJ hY hI h0 hrl
 gi_wp2_with (refine ⟨trivial,?_⟩;gi_at_call 156;refine (callsIn_wide.2 HP.out).mono ?_;rintro e w1 ⟨rfl,hb1⟩)
 have HJ1:=Hi (HJ.out _ _ _ H0.out (q1k hb1));have HI1:=Hi (HI.out.below hb1);clear hb1 c0
 gi_loopw [3] (fun vr wr=>∃ (pre:List (Tk×Nat)) (R:Bs) (f i:Nat),vr = .string ⟨R.toArray⟩/\i+R.length=s.size/\Hid (pre ++ goI f R i=bV s.data.toList/\R.length < f/\J pre wr/\TkI lb Bx s wr))
  (fun vr _=>szOf vr)
 case atStart=>exact ⟨[],aZ s.data.toList,s.data.toList.length+1,aj false s.data.toList,rfl,HS0.out.2,Hi ⟨rfl,HS0.out.1,HJ1.out,HI1.out⟩⟩
 case round=>
  clear HJ1 HI1 HS0 HP H0;obtain ⟨pre,R,f,i,rfl,hiR,HH⟩:=hrel;have c0:wr.cell? ⟨Bx,0,none⟩=some (.string s):=HH.out.2.2.2.box.cell 0;by_cases hR0:R=[]
  ·subst hR0;have hpre:=HH.out.1;obtain ⟨f,rfl⟩:∃ g,f=g+1:=⟨f - 1,by have:=HH.out.2.1;omega⟩;rw [q4y] at hpre;have his:i=s.size:=by simpa using hiR
   subst his;have HPR:=Hi hpre;obtain ⟨fn,tmps,assign,body,hy0,hRn⟩:=HY.out pre (⟨0,[],s.size⟩,0) wr HH.out.2.2.1 (by rw [<-hpre];simp);have hy:(Instr.yield l #[.agg #[.int .i64 0,.string ⟨#[]⟩,.int .i64 (s.size:Int)],.int .i64 0]).run Tryz.prog wr = .ok (.round l fn tmps assign body) wr:=hy0;clear hpre hy0
   gi_wp2
   refine hRn.mono ?_;rintro e W3 (⟨rfl,hJ3,hk3⟩ | ⟨rfl,hJx3⟩)
   ·gi_wp2
    go_end0
    exact ⟨⟨_,rfl⟩,.inl ⟨_,HPR.out,hJ3⟩⟩
   ·gi_wp2
    go_end0
    exact V3U
  ·obtain ⟨c,r,hcr⟩:∃ c r,R=c :: r:=by
    cases R with
    | nil=>exact absurd rfl hR0
    | cons c r=>exact ⟨c,r,rfl⟩
   have hne:(R==[])=false:=by rw [hcr];rfl
   obtain ⟨f,rfl⟩:∃ g,f=g+1:=⟨f - 1,by have:=HH.out.2.1;omega⟩;have hpre:=HH.out.1;have hi:(i:Int)=(s.size:Int) - (R.length:Int):=V0;have hfi:=first ⟨R.toArray⟩ c r V0v hcr wr;have HCR:=Hi hcr;have hlt0:=HH.out.2.2.2.box.lt;have hlb0:=HH.out.2.2.2.lt;rcases ht:aW c r with _ | ⟨k,m⟩
   ·rw [hcr,q3e ht] at hpre;have HPR:=Hi hpre;have HYX:Hid (∀ w2,Below wr.heap.size wr w2->∃ fn tmps assign body,(Instr.yield l #[.agg #[.int .i64 0,.string ⟨#[]⟩,.int .i64 ((s.size:Int) - (R.length:Int))],.int .i64 100]).run Tryz.prog (w2.alloc (.cells #[.int .i64 0,.string ⟨#[]⟩,.int .i64 ((s.size:Int) - (R.length:Int))] 63)) = .ok (.round l fn tmps assign body) (w2.alloc (.cells #[.int .i64 0,.string ⟨#[]⟩,.int .i64 ((s.size:Int) - (R.length:Int))] 63)) /\
      RoundIn Fence.wide (n - 1) Tryz.prog l fn tmps assign body (w2.alloc (.cells #[.int .i64 0,.string ⟨#[]⟩,.int .i64 ((s.size:Int) - (R.length:Int))] 63)) fun e W'=>(e = .returned (.bool true)/\J (pre ++ [(⟨0,[],i⟩,100)]) W')\/(e = .returned (.bool false)/\Jx (pre ++ [(⟨0,[],i⟩,100)]) W')):=Hi fun w2 hb2=>by
     obtain ⟨W3,hW3⟩:∃ W3,w2.alloc (.cells #[.int .i64 0,.string ⟨#[]⟩,.int .i64 ((s.size:Int) - (R.length:Int))] 63)=W3:=⟨_,rfl⟩;rw [hW3];obtain ⟨fn,tmps,assign,body,hy,hRn⟩:=HY.out pre (⟨0,[],i⟩,100) W3 (HJ.out _ _ _ HH.out.2.2.1 (q1k (by rw [<-hW3];exact hb2.alloc hb2.size _))) V15;have hy2:(Instr.yield l #[.agg #[.int .i64 0,.string ⟨#[]⟩,.int .i64 (i:Int)],.int .i64 100]).run Tryz.prog W3 = .ok (.round l fn tmps assign body) W3:=hy;rw [hi] at hy2;exact ⟨fn,tmps,assign,body,hy2,hRn.mono fun e W' h=>h.imp (fun h=>⟨h.1,h.2.1⟩) id⟩
    rw [show FtV (bP c r) = .tuple #[.agg #[.int .i64 0,.string ⟨#[]⟩,.int .i64 0],.int .i64 100] by unfold bP;rw [ht];rfl] at hfi;have HFI:=Hi hfi;have hszw:=HH.out.2.2.2.box;have HBX:=Hi hszw;clear hpre hfi ht hcr hi hszw
    gi_wp2_with (refine ⟨trivial,?_⟩;gi_at_call 157;refine (callsIn_wide.2 HFI.out).mono ?_;rintro e w2 ⟨rfl,hb2⟩;obtain ⟨fn,tmps,assign,body,hy,hRn⟩:=HYX.out w2 hb2;have cb:w2.cell? ⟨Bx,0,none⟩=some (.string s):=(HBX.out.below hb2 hlt0).cell 0;have hlt2:Bx < w2.heap.size:=Nat.lt_of_lt_of_le hlt0 hb2.size;clear hb2)
    refine hRn.mono ?_;rintro e W3 (⟨rfl,hJ3⟩ | ⟨rfl,hJx3⟩)
    ·gi_wp2
     refine bodyPost_ret (results_none rfl _ _ _) rfl ?_;exact ⟨⟨_,rfl⟩,.inl ⟨_,HPR.out,hJ3⟩⟩
    ·gi_wp2
     refine bodyPost_ret (results_none rfl _ _ _) rfl ?_;exact V3U
   ·have hm:=q26 ht;have hrl:=q3h (f:=f) ht (by rw [<-hcr];exact HH.out.2.1);rw [hcr,q3f ht] at hpre;rw [<-hcr] at hpre hrl hm;have hdl:(R.drop m).length=R.length - m:=List.length_drop;have hsl:=q0I false (R.drop m);obtain ⟨D,hD⟩:∃ D,R.drop m=D:=⟨_,rfl⟩;rw [hD] at hpre hrl hdl hsl;have hX:(R.take m).length=m:=VL;obtain ⟨X,hXX⟩:∃ X,R.take m=X:=⟨_,rfl⟩;rw [hXX] at hpre hX;have hi2:i+m+aj false D+(aZ D).length=s.size:=by unfold aZ;rw [List.length_drop];omega
    have hrd:(aZ D).length < R.length:=by have:=q2B D;omega
    have hsf:∀ W,(Instr.slice 9 (.string ⟨R.toArray⟩) (some (.int .i64 (X.length:Int))) none none).run Tryz.prog W = .ok (.string ⟨D.toArray⟩) W:=fun W=>by
     have:=q3b R X.length (by rw [hX];omega) W;rw [hX,hD] at this;rw [hX];exact this
    have hXl:X.length<=R.length:=V0;have HPR:=Hi hpre;have HYX:Hid (∀ w2,Below wr.heap.size wr w2->∃ fn tmps assign body,(Instr.yield l #[.agg #[.int .i64 (k:Int),.string ⟨X.toArray⟩,.int .i64 ((s.size:Int) - (R.length:Int))],.int .i64 0]).run Tryz.prog (w2.alloc (.cells #[.int .i64 (k:Int),.string ⟨X.toArray⟩,.int .i64 ((s.size:Int) - (R.length:Int))] 63)) = .ok (.round l fn tmps assign body) (w2.alloc (.cells #[.int .i64 (k:Int),.string ⟨X.toArray⟩,.int .i64 ((s.size:Int) - (R.length:Int))] 63)) /\
      RoundIn Fence.wide (n - 1) Tryz.prog l fn tmps assign body (w2.alloc (.cells #[.int .i64 (k:Int),.string ⟨X.toArray⟩,.int .i64 ((s.size:Int) - (R.length:Int))] 63)) fun e W'=>(e = .returned (.bool true)/\J (pre ++ [(⟨k,X,i⟩,0)]) W'/\TkI lb Bx s W'/\W'.cell? ⟨w2.heap.size,1,none⟩=some (.string ⟨X.toArray⟩))\/(e = .returned (.bool false)/\Jx (pre ++ [(⟨k,X,i⟩,0)]) W')):=Hi fun w2 hb2=>by
     obtain ⟨W3,hW3⟩:∃ W3,w2.alloc (.cells #[.int .i64 (k:Int),.string ⟨X.toArray⟩,.int .i64 ((s.size:Int) - (R.length:Int))] 63)=W3:=⟨_,rfl⟩;have hb3:Below wr.heap.size wr W3:=by rw [<-hW3];exact hb2.alloc hb2.size _
     have hI2:=HH.out.2.2.2.below hb2;have hI3:=HH.out.2.2.2.below hb3;have hB3:Aa W3 w2.heap.size 63 #[.int .i64 (k:Int),.string ⟨X.toArray⟩,.int .i64 ((s.size:Int) - (R.length:Int))]:=by rw [<-hW3];exact Aa.new _ _ _
     have hna:¬ Arr W3 lb w2.heap.size:=fun ha=>by
      have e3:W3.heap[lb]?=w2.heap[lb]?:=by rw [<-hW3];exact Below.heap_alloc _ _ _ hI2.lt
      have:=hI2.wf _ ((q4f e3).1 ha);omega
     have hnl:w2.heap.size≠lb:=by have:=hI2.lt;omega
     rw [hW3];obtain ⟨fn,tmps,assign,body,hy,hRn⟩:=HY.out pre (⟨k,X,i⟩,0) W3 (HJ.out _ _ _ HH.out.2.2.1 (q1k hb3)) V15;have hy2:(Instr.yield l #[.agg #[.int .i64 (k:Int),.string ⟨X.toArray⟩,.int .i64 (i:Int)],.int .i64 0]).run Tryz.prog W3 = .ok (.round l fn tmps assign body) W3:=hy;rw [hi] at hy2;refine ⟨fn,tmps,assign,body,hy2,hRn.mono fun e W' h=>h.imp (fun h=>⟨h.1,h.2.1,hI3.ka h.2.2,?_⟩) id⟩;exact (show Aa W' w2.heap.size 63 _ from h.2.2.keep _ _ hnl hna hB3 rfl).cell 1
    rw [show FtV (bP c r) = .tuple #[.agg #[.int .i64 (k:Int),.string ⟨X.toArray⟩,.int .i64 0],.int .i64 0] by unfold bP;rw [ht];show FtV (some (k,(c :: r).take m))=_;rw [<-hcr,hXX];rfl] at hfi;have HFI:=Hi hfi;have hszw:=HH.out.2.2.2.box;have HBX:=Hi hszw;have HPD:=Hi (passed ⟨D.toArray⟩ V0v);have HR:Hid ((aZ D).length < f):=Hi hrl;clear hpre hfi ht hcr hi hszw hX hXX hD hdl hsl hm hrl
    gi_wp2_with (refine ⟨trivial,?_⟩;gi_at_call 157;refine (callsIn_wide.2 HFI.out).mono ?_;rintro e w2 ⟨rfl,hb2⟩;obtain ⟨fn,tmps,assign,body,hy,hRn⟩:=HYX.out w2 hb2;have cb:w2.cell? ⟨Bx,0,none⟩=some (.string s):=(HBX.out.below hb2 hlt0).cell 0;have hlt2:Bx < w2.heap.size:=Nat.lt_of_lt_of_le hlt0 hb2.size;clear hb2)
    refine hRn.mono ?_;rintro e W3 (⟨rfl,hJ3,hI3,d1⟩ | ⟨rfl,hJx3⟩)
    ·gi_wp2_with (refine ⟨trivial,?_⟩;gi_at_call 156;refine (callsIn_wide.2 (HPD.out _)).mono ?_;rintro e w4 ⟨rfl,hb4⟩)
     have HJ4:=Hi (HJ.out _ _ _ hJ3 (q1k hb4));have HI4:=Hi (hI3.below hb4)
     go_roundw
     case rel=>exact ⟨pre ++ [(⟨k,X,i⟩,0)],aZ D,f,i+m+aj false D,rfl,hi2,Hi ⟨V15,HR.out,HJ4.out,HI4.out⟩⟩
     case measure=>
      show (⟨(aZ D).toArray⟩:ByteArray).size < (⟨R.toArray⟩:ByteArray).size;rw [q1x,q1x];exact hrd
    ·gi_wp2
     refine bodyPost_ret (results_none rfl _ _ _) rfl ?_;exact ⟨⟨_,rfl⟩,.inr ⟨_,⟨goI f (aZ D) (i+m+aj false D),V15⟩,hJx3⟩⟩
theorem ptokens(s:ByteArray)(w:World):Calls Tryz.prog 126 #[.string s] w fun e w'=>e = .returned (.func (.func 155) #[] #[.pointer (some ⟨w.heap.size,0,none⟩)])/\w'=w.alloc (.cells #[.string s] 9):=by
 go_enter Tryz.func126,Tryz.ntmps126;go_wp2_with fail
 go_ret;exact ⟨rfl,rfl⟩
theorem q4g(n:Nat)(hn:1<=n)(lb Bx:Nat)(s:ByteArray)(hs:s.size<=20000)(w:World)(hI:TkI lb Bx s w) :
  SeqStopsK Fence.wide n Tryz.prog 155 #[.pointer (some ⟨Bx,0,none⟩)] encT (KA lb) (fun ys=>ys=bV s.data.toList) (fun pre=>pre <+: bV s.data.toList) (bV s.data.toList).length w:=fun l J Jx W hW hJ _ hY h0=>
 tokens1 n hn l lb Bx s hs J Jx (fun pre A B h1 h2=>hJ pre A B none h1 h2 nofun) hY W (hI.below hW) h0
end
end Lx
namespace Rd
open Go
theorem oper_in{l n:Nat}{P:Program}{o:Oper}{a:Act}{w:World}{K:Act->World->Prop}{Q:Exit->Act->World->Prop}(hd:∀ c,o.op≠.defer c)(h:o.wp P a w K Q) :
  o.wpIn (Fence.wide.inRound l) n P a w K Q:=by
 unfold Oper.wp at h;unfold Oper.wpIn;refine ⟨fun _ _=>trivial,?_⟩;rw [show (Fence.wide.inRound l).round=some l from rfl,Oper.semAt_some l _ _ hd];generalize (execOp a.eval o).run P w=r at *;cases r with
 | ok x w'=>
  cases x <;> simp only [Oper.upon,Oper.uponIn] at h ⊢ <;>
   first
    | exact h
    | exact ⟨fun h=>VX,callsIn_wide.2 h⟩
    | exact ⟨fun h=>VX,fun c cs _=>by obtain ⟨v,w'',r1,r2⟩:=h c cs;exact ⟨v,w'',r1,stepsIn_wide.2 r2⟩⟩
    | exact h.elim
 | halt x w'=>cases x <;> simp only [Oper.upon,Oper.uponIn] at h ⊢ <;> first | exact h | exact h.elim
def noDefer(ops:Array Oper):Bool:=ops.toList.all fun o=>match o.op with | .defer _=>false | _=>true
theorem q5C{ops:Array Oper}(h:noDefer ops=true){j:Nat}{o:Oper}(ho:ops[j]?=some o):∀ c,o.op≠.defer c:=fun c hc=>by
 have hm:o∈ops.toList:=by
  rw [<-Array.getElem?_toList] at ho;exact List.mem_of_getElem? ho
 have:=List.all_eq_true.1 h o hm;rw [hc] at this;cases this
theorem q8z{l n:Nat}{P:Program}{md:Region.Mode}{ops:Array Oper}{Q:Exit->Act->World->Prop}(hd:noDefer ops=true)(hQ:¬ LetsOut Q) :
  ∀ (f:Nat) (listed:Array Bool) (a:Act) (w:World),wpAny P md ops Q f listed a w->wpAnyIn (Fence.wide.inRound l) n P md ops Q f listed a w
 | 0,listed,a,w,h=>h
 | f+1,listed,a,w,h=>⟨h.1,fun i hi=>by
  have h1:=wpOp_mono (fun a w h=>q8z (l:=l) (n:=n) hd hQ f _ a w h) (h.2 i hi);unfold wpOp at h1;unfold wpOpIn;cases ho:ops[i]? with
  | none=>rw [ho] at h1;exact h1
  | some o=>
   rw [ho] at h1;dsimp only at h1 ⊢;by_cases hw:Region.wanted o (yielded ops a.tmps)=true
   ·rw [if_pos hw] at h1 ⊢;rcases h1 with h1 | ⟨_,h1⟩
    ·exact oper_in (q5C hd ho) h1
    ·exact absurd h1 hQ
   ·rw [if_neg hw] at h1 ⊢;exact ⟨fun _ _=>trivial,h1⟩⟩
theorem region_in{l n:Nat}{P:Program}{ops:Array Oper}{Q:Exit->Act->World->Prop}{S:World->Prop}{id:Nat}{a:Act}{w:World}(hm:P.follows .mixedOrders=true)(hd:noDefer ops=true)(hQ:¬ LetsOut Q)(hS:S w.drew)
  (h:S w.drew->wpAnyH P .any ops Q S ops.size (Array.replicate ops.size false) a w.drew):(Code.region id ops true).wpIn (Fence.wide.inRound l) n P Q a w:=
 wpIn_region_any hm (q8z hd hQ _ _ _ _ (wpAny_of_held _ _ _ _ (h hS)))
end Rd
namespace Lx
open Go Go.ChangeShapes Go.WideShapes Go.ChangeAt Go.RowKit Go.Shelf Args
section
attribute [local go_sem] Oper.semAt_some
theorem infoTk:(Tryz.prog.info? 63).map (fun i=>(i.zero,i.size,i.bytes))=some (some (.agg #[.int .i64 0,.string ⟨#[]⟩,.int .i64 0]),3,32):=V1
def PWordsP(s:ByteArray)(w:World)(e:Ending)(w':World):Prop:=
 ∃ A c,e = .returned (.tuple #[.slice A (af s.data.toList).l.length c,.int .i64 ((af s.data.toList).at_:Int),.int .i64 ((af s.data.toList).er:Int)])/\Af w' A ((af s.data.toList).l.flatMap tkC)/\Below w.heap.size w w'/\(af s.data.toList).l.length<=c/\c<=maxLen
theorem isAggL(w:World):(isAgg 55).run Tryz.prog w = .ok false w:=run_isAgg_plain Tryz.underlying55 rfl w
theorem isAggI(w:World):(isAgg 3).run Tryz.prog w = .ok false w:=run_isAgg_plain Tryz.underlying3 rfl w
def R3(n:Nat)(a b c:Value)(W:World):Prop:=Aa W n 55 #[a]/\Aa W (n+1) 3 #[b]/\Aa W (n+2) 27 #[c]
theorem q8A{n:Nat}{a b c:Value}{W:World}(h:R3 n a b c W)(tmps:Array Value)(h2:tmps.getD 2 undef = .pointer (some ⟨n,0,none⟩))(h3:tmps.getD 3 undef = .pointer (some ⟨n+1,0,none⟩))(h4:tmps.getD 4 undef = .pointer (some ⟨n+2,0,none⟩)) :
  (results Tryz.f99 tmps).run Tryz.prog W = .ok (.tuple #[a,b,c]) W:=
 q1N rfl tmps W n (n+1) (n+2) a b c h2 h3 h4 (q05 (isAggL W) (h.1.cell 0)) (q05 (isAggI W) (h.2.1.cell 0)) (q05 (isAggE W) (h.2.2.cell 0))
def put3(w:World)(n:Nat)(a b c:Value):World:=((w.setCell ⟨n,0,none⟩ a).setCell ⟨n+1,0,none⟩ b).setCell ⟨n+2,0,none⟩ c
theorem q6z{n:Nat}{a b c:Value}{W:World}(h:R3 n a b c W)(a' b' c':Value):R3 n a' b' c' (put3 W n a' b' c'):=by
 obtain ⟨h1,h2,h3⟩:=h;refine ⟨?_,?_,?_⟩
 ·exact ((h1.set 0 a').far (p:=⟨n+1,0,none⟩) (by show n≠n+1;omega) b').far (p:=⟨n+2,0,none⟩) (by show n≠n+2;omega) c'
 ·exact ((h2.far (p:=⟨n,0,none⟩) V14 a').set 0 b').far (p:=⟨n+2,0,none⟩) (by show n+1≠n+2;omega) c'
 ·exact ((h3.far (p:=⟨n,0,none⟩) (by show n+2≠n;omega) a').far (p:=⟨n+1,0,none⟩) (by show n+2≠n+1;omega) b').set 0 c'
theorem q2e{w0 w:World}{B n:Nat}(h:Below B w0 w)(hB:B<=n)(a b c:Value):Below B w0 (put3 w n a b c):=
 ((h.setCell (p:=⟨n,0,none⟩) hB a).setCell (p:=⟨n+1,0,none⟩) (by show B<=n+1;omega) b).setCell (p:=⟨n+2,0,none⟩) (by show B<=n+2;omega) c
theorem q2f(W:World)(n:Nat)(a b c:Value):KeepsOthers W (put3 W n a b c):=
 ((KeepsOthers.setCell W ⟨n,0,none⟩ a).trans (KeepsOthers.setCell _ ⟨n+1,0,none⟩ b)).trans (KeepsOthers.setCell _ ⟨n+2,0,none⟩ c)
theorem q23{n:Nat}{a b c:Value}{W:World}(h:R3 n a b c W)(o:Obj):R3 n a b c (W.alloc o):=⟨h.1.alloc o,h.2.1.alloc o,h.2.2.alloc o⟩
theorem q5e{n:Nat}{a b c:Value}{A W:World}{row:Option Nat}(h:R3 n a b c A)(hg:A.grownBy W row)(hr:∀ r,row=some r->n+2 < r):R3 n a b c W:=
 ⟨(hg.block _ h.1.lt (fun e=>V26)).trans h.1,(hg.block _ h.2.1.lt (fun e=>V26)).trans h.2.1,(hg.block _ h.2.2.lt (fun e=>V26)).trans h.2.2⟩
def tks(pre:List (Tk×Nat)):List Tk:=pre.map (·.1)
def WdI(w:World)(pre:List (Tk×Nat))(W:World):Prop:=(∀ x∈pre,x.2 = 0)/\pre.length<=4000/\R3 w.heap.size (.slice none 0 0) (.int .i64 0) (.int .i64 0) W /\
 (∃ g c,Aa W (w.heap.size+4) 55 #[.slice (some ⟨g,0,none⟩) pre.length c]/\W.ownsRow (w.heap.size+3) 63 3 (.slice (some ⟨g,0,none⟩) pre.length c) pre.length ((tks pre).flatMap tkC))/\Below w.heap.size w W
def WdX(w:World)(c:Code)(pre:List (Tk×Nat))(W:World):Prop:=c = .ret/\∃ q x,∃ er:Nat,pre=q ++ [x]/\(∀ y∈q,y.2 = 0)/\q.length<=4000/\((x.2≠0/\er=x.2)\/(x.2 = 0/\q.length = 4000/\er = 150)) /\
 R3 w.heap.size (.slice none 0 0) (.int .i64 (x.1.at_:Int)) (.int .i64 (er:Int)) W/\Below w.heap.size w W
def WdA(s:ByteArray)(w:World)(x:Tk×Nat)(a':Act)(W:World):Prop:=∃ Bt,w.heap.size+4 < Bt/\Aa W Bt 63 #[.int .i64 (x.1.k:Int),.string ⟨x.1.s.toArray⟩,.int .i64 (x.1.at_:Int)] /\
 a'={ tmps:=#[.string s,undef,.pointer (some ⟨w.heap.size,0,none⟩),.pointer (some ⟨w.heap.size+1,0,none⟩),.pointer (some ⟨w.heap.size+2,0,none⟩),.pointer (some ⟨w.heap.size+4,0,none⟩),.pointer (some ⟨Bt,0,none⟩),.int .i64 (x.2:Int),.string s,.int .i64 (s.size:Int),.bool false,.slice (some ⟨w.heap.size+3,0,none⟩) 0 0,.string s,.func (.func 155) #[] #[.pointer (some ⟨w.heap.size+5,0,none⟩)],.agg #[.int .i64 (x.1.k:Int),.string ⟨x.1.s.toArray⟩,.int .i64 (x.1.at_:Int)],.int .i64 (x.2:Int),undef,undef,undef,undef,undef,undef,undef,undef,undef,undef,undef,undef,undef,undef,undef],defers:=[] }
theorem q2U{B g:Nat}{t:TypeId}{cs:Array Value}{A W:World}{row:Option Nat}(h:Aa A g t cs)(hg:A.grownBy W row)(hr:∀ r,row=some r->B<=r/\∃ o:Obj,A.heap[r]?=some o/\o.isCells=false):Aa W g t cs:=
 (hg.block g h.lt (fun e=>by obtain ⟨_,o,ho,hc⟩:=hr g e.symm;rw [show A.heap[g]?=_ from h] at ho;cases ho;cases hc)).trans h
theorem q5f{B n:Nat}{a b c:Value}{A W:World}{row:Option Nat}(h:R3 n a b c A)(hg:A.grownBy W row)(hr:∀ r,row=some r->B<=r/\∃ o:Obj,A.heap[r]?=some o/\o.isCells=false):R3 n a b c W:=
 ⟨q2U h.1 hg hr,q2U h.2.1 hg hr,q2U h.2.2 hg hr⟩
theorem q6A{B n:Nat}{w A W:World}{row:Option Nat}(h:Below n w A)(hg:A.grownBy W row)(hr:∀ r,row=some r->B<=r/\∃ o:Obj,A.heap[r]?=some o/\o.isCells=false)(hB:n<=B)(hs:n<=A.heap.size):Below n w W:=
 h.grown hg hs fun k hk=>by have:=(hr k hk).1;omega
theorem q6B{B base size n:Nat}{e:TypeId}{v:Value}{xs:List Value}{A W:World}{row:Option Nat}(h:A.ownsRow base e size v n xs)(hg:A.grownBy W row)(hr:∀ r,row=some r->B<=r/\∃ o:Obj,A.heap[r]?=some o/\o.isCells=false):W.ownsRow base e size v n xs:=by
 refine ⟨h.1,h.2.imp id fun ⟨g,cap,cur,e1,hb,hh,r⟩=>⟨g,cap,cur,e1,hb,?_,r⟩⟩;have hl:=(Array.getElem?_eq_some_iff.1 hh).1;exact (hg.block g hl (fun e2=>by obtain ⟨_,o,ho,hc⟩:=hr g e2.symm;rw [hh] at ho;cases ho;cases hc)).trans hh
theorem wdI_own(w:World){B:Nat}(hB:w.heap.size<=B):OwnFrom B (WdI w):=fun pre A W row ⟨h1,h2,h3,⟨g,c,h4,h5⟩,h6⟩ hg hr=>
 ⟨h1,h2,q5f h3 hg hr,⟨g,c,q2U h4 hg hr,q6B h5 hg hr⟩,q6A h6 hg hr hB h6.size⟩
theorem wdX_own(w:World){B:Nat}(hB:w.heap.size<=B)(c:Code):OwnFrom B (WdX w c):=fun pre A W row ⟨h0,q,x,er,h1,h2,h3,h4,h5,h6⟩ hg hr=>
 ⟨h0,q,x,er,h1,h2,h3,h4,q5f h5 hg hr,q6A h6 hg hr hB h6.size⟩
theorem wdA_own(s:ByteArray)(w:World){B:Nat}(x:Tk×Nat)(a':Act):OwnFrom B (fun (_:Unit) W=>WdA s w x a' W):=fun _ A W row ⟨Bt,h1,h2,h3⟩ hg hr=>⟨Bt,h1,q2U h2 hg hr,h3⟩
theorem q6C{w:World}{pre:List (Tk×Nat)}{W:World}(h:WdI w pre W)(o:Obj):WdI w pre (W.alloc o):=by
 obtain ⟨h1,h2,h3,⟨g,c,h4,h5⟩,h6⟩:=h;exact ⟨h1,h2,q23 h3 o,⟨g,c,h4.alloc o,h5.alloc o⟩,h6.alloc h6.size o⟩
def wdW(a b c:Value)(w:World):World:=((w.alloc (.cells #[a] 55)).alloc (.cells #[b] 3)).alloc (.cells #[c] 27)
theorem q7U(a b c:Value)(w:World):(wdW a b c w).heap.size=w.heap.size+3:=by unfold wdW;simp
theorem q8B(a b c:Value)(w:World):R3 w.heap.size a b c (wdW a b c w):=by
 refine ⟨((Aa.new w _ _).alloc _).alloc _,?_,?_⟩
 ·have:=(Aa.new (w.alloc (.cells #[a] 55)) 3 #[b]).alloc (.cells #[c] 27);rw [World.size_alloc] at this;exact this
 ·have:=Aa.new ((w.alloc (.cells #[a] 55)).alloc (.cells #[b] 3)) 27 #[c];rw [World.size_alloc,World.size_alloc] at this;exact this
theorem q4h(a b c:Value)(w:World):Below w.heap.size w (wdW a b c w):=(((Below.refl _ w).alloc (Nat.le_refl _) _).alloc V3 _).alloc V4 _
def wdB(s:ByteArray)(w:World):World:=(((wdW (.slice none 0 0) (.int .i64 0) (.int .i64 0) w).alloc (.cells #[] 63)).alloc (.cells #[.slice (some ⟨w.heap.size+3,0,none⟩) 0 0] 55)).alloc (.cells #[.string s] 9)
theorem q6D(s:ByteArray)(w:World):(wdB s w).heap.size=w.heap.size+6/\WdI w [] (wdB s w)/\TkI (w.heap.size+4) (w.heap.size+5) s (wdB s w):=by
 have hs:=q7U (.slice none 0 0) (.int .i64 0) (.int .i64 0) w;have hr:=q8B (.slice none 0 0) (.int .i64 0) (.int .i64 0) w;have hb:=q4h (.slice none 0 0) (.int .i64 0) (.int .i64 0) w;unfold wdB;generalize wdW (.slice none 0 0) (.int .i64 0) (.int .i64 0) w=w1 at *;have o1:=cz w1 (Nat.le_refl _) 63 3;rw [hs] at o1;have b4:=(Aa.new (w1.alloc (.cells #[] 63)) 55 #[.slice (some ⟨w.heap.size+3,0,none⟩) 0 0]).alloc (.cells #[.string s] 9);rw [World.size_alloc,hs] at b4;have b5:=Aa.new ((w1.alloc (.cells #[] 63)).alloc (.cells #[.slice (some ⟨w.heap.size+3,0,none⟩) 0 0] 55)) 9 #[.string s];rw [World.size_alloc,World.size_alloc,hs] at b5;have hsz:(((w1.alloc (.cells #[] 63)).alloc (.cells #[.slice (some ⟨w.heap.size+3,0,none⟩) 0 0] 55)).alloc (.cells #[.string s] 9)).heap.size=w.heap.size+6:=by simp [hs]
 refine ⟨hsz,⟨fun x hx=>(by cases hx),Nat.zero_le _,q23 (q23 (q23 hr _) _) _,⟨w.heap.size+3,0,b4,(o1.alloc _).alloc _⟩,((hb.alloc hb.size _).alloc V4 _).alloc V4 _⟩,?_⟩;have hA:∀ k,Arr (((w1.alloc (.cells #[] 63)).alloc (.cells #[.slice (some ⟨w.heap.size+3,0,none⟩) 0 0] 55)).alloc (.cells #[.string s] 9)) (w.heap.size+4) k->k=w.heap.size+3:=fun k ⟨o,n,c,h⟩=>by
  have h2:=b4.cell 0;rw [h] at h2;cases h2;rfl
 exact ⟨by rw [hsz];omega,fun k hk=>by rw [hA k hk,hsz];omega,b5,V0,fun ha=>by have:=hA _ ha;omega⟩
theorem q4K(s:ByteArray)(h:20000 < s.size)(w:World):Calls Tryz.prog 99 #[.string s] w (PWordsP s w):=by
 have hw:=q27 s.data.toList (by rw [q1H];exact h);have i1:decide ((20000:Int) < (s.size:Int))=true:=V4;have HP:Hid (∀ w',Below w.heap.size w w'->PWordsP s w (.returned (.tuple #[.slice none 0 0,.int .i64 0,.int .i64 150])) w'):=Hi fun w' hb=>⟨none,0,by rw [hw];rfl,by rw [hw];exact Af.nil _ _,hb,by rw [hw];exact Nat.le_refl _,V2⟩
 clear hw;generalize PWordsP s w=Q at *;go_enter Tryz.func99,Tryz.ntmps99;go_wp2_with fail
 refine bodyPost_ret (q8A (q8B (.slice none 0 0) (.int .i64 0) (.int .i64 150) w) _ rfl rfl rfl) rfl ?_;exact HP.out _ (q4h _ _ _ w)
theorem own_cap{W:World}{base size n g c:Nat}{e:TypeId}{xs:List Value}(h:W.ownsRow base e size (.slice (some ⟨g,0,none⟩) n c) n xs):n<=c/\c<=maxLen:=by
 rcases h.2 with ⟨h,_⟩ | ⟨g',cap,cur,h,_,_,h1,h2,_⟩
 ·cases h
 ·cases h;exact ⟨h1,h2⟩
theorem q6E{W:World}{base n lb:Nat}{g c:Nat}{xs:List Value}{u:Value}(h:W.ownsRow base 63 3 (.slice (some ⟨g,0,none⟩) n c) n xs)(hb:Aa W lb 55 #[u]):g≠lb/\base<=g/\g < W.heap.size:=by
 rcases h.2 with ⟨h0,_⟩ | ⟨g',cap,cur,e1,hg,hh,_⟩
 ·cases h0
 ·cases e1;refine ⟨fun e=>?_,hg,(Array.getElem?_eq_some_iff.1 hh).1⟩;subst e;rw [show W.heap[g]?=_ from hb] at hh;cases hh
theorem q7V(pre:List (Tk×Nat))(x:Tk×Nat):(tks (pre ++ [x])).flatMap tkC=(tks pre).flatMap tkC ++ tkC x.1:=by simp [tks]
theorem q6F{w W w8:World}{pre:List (Tk×Nat)}{t:Tk}{g c g' c':Nat}{o:Obj}(h1:∀ x∈pre,x.2 = 0)(hlen:pre.length < 4000)
  (h3:R3 w.heap.size (.slice none 0 0) (.int .i64 0) (.int .i64 0) W) (h4:Aa W (w.heap.size+4) 55 #[.slice (some ⟨g,0,none⟩) pre.length c])
  (h5:W.ownsRow (w.heap.size+3) 63 3 (.slice (some ⟨g,0,none⟩) pre.length c) pre.length ((tks pre).flatMap tkC)) (h6:Below w.heap.size w W)
  (k2:w8.ownsRow (w.heap.size+3) 63 3 (.slice (some ⟨g',0,none⟩) (pre.length+1) c') (pre.length+1) ((tks pre).flatMap tkC ++ tkC t)) (k3:(W.alloc o).grownBy w8 (some g)) (k4:some g'=some g\/g'=(W.alloc o).heap.size) :
  KeepsOthers W (w8.setCell ⟨w.heap.size+4,0,none⟩ (.slice (some ⟨g',0,none⟩) (pre.length+1) c'))/\KA (w.heap.size+4) W (w8.setCell ⟨w.heap.size+4,0,none⟩ (.slice (some ⟨g',0,none⟩) (pre.length+1) c')) /\
   WdI w (pre ++ [(t,0)]) (w8.setCell ⟨w.heap.size+4,0,none⟩ (.slice (some ⟨g',0,none⟩) (pre.length+1) c')):=by
 obtain ⟨n1,n2,n3⟩:=q6E h5 h4;have hl4:=h4.lt;have hgr:=grownBy_setCell' w8 (w.heap.size+4) (.slice (some ⟨g',0,none⟩) (pre.length+1) c');have b8:Aa w8 (w.heap.size+4) 55 #[.slice (some ⟨g,0,none⟩) pre.length c]:=(k3.block _ V4 (fun e=>n1 VG)).trans (h4.alloc o);obtain ⟨m1,m2,m3⟩:=q6E k2 b8;have b9:=b8.set 0 (.slice (some ⟨g',0,none⟩) (pre.length+1) c');have hsz8:W.heap.size+1<=w8.heap.size:=by have:=k3.size;simpa using this
 have hsz9:=hgr.size;have hA9:∀ k,Arr (w8.setCell ⟨w.heap.size+4,0,none⟩ (.slice (some ⟨g',0,none⟩) (pre.length+1) c')) (w.heap.size+4) k->k=g':=fun k ⟨o,n,c2,h⟩=>by
  have h2:=b9.cell 0;rw [h] at h2;cases h2;rfl
 have hAW:Arr W (w.heap.size+4) g:=⟨0,pre.length,c,h4.cell 0⟩;have hkeep:∀ (k:Nat) (o2:Obj),k≠w.heap.size+4->k≠g->W.heap[k]?=some o2->(w8.setCell ⟨w.heap.size+4,0,none⟩ (.slice (some ⟨g',0,none⟩) (pre.length+1) c')).heap[k]?=some o2:=fun k o2 e1 e2 hk=>by
  have hlt:=(Array.getElem?_eq_some_iff.1 hk).1;rw [hgr.block k V0 (fun e=>e1 VG),k3.block k V4 (fun e=>e2 VG),Below.heap_alloc W o k hlt];exact hk
 refine ⟨⟨V0,fun k o2 hk hc=>?_⟩,⟨V0,fun k hk=>?_,fun _ k hk=>by rw [hA9 k hk];omega,fun k o2 e1 e2 hk _=>hkeep k o2 e1 (fun e=>e2 (e ▸ hAW)) hk⟩,?_⟩
 ·refine hkeep k o2 (fun e=>?_) (fun e=>?_) hk
  ·subst e;rw [show W.heap[w.heap.size+4]?=_ from h4] at hk;cases hk;cases hc
  ·subst e;rcases h5.2 with ⟨h0,_⟩ | ⟨g2,cap,cur,e1,_,hh,_⟩
   ·cases h0
   ·cases e1;rw [hh] at hk;cases hk;cases hc
 ·rw [hA9 k hk];rcases k4 with h | h
  ·cases h;exact .inl hAW
  ·rw [h];exact .inr V3
 ·refine ⟨fun x hx=>?_,V4,?_,⟨g',c',by simpa using b9,?_⟩,?_⟩
  ·rcases List.mem_append.1 hx with hx | hx
   ·exact h1 x hx
   ·rw [List.mem_singleton.1 hx]
  ·exact q5e (q5e (q23 h3 o) k3 (fun r e=>Vb)) hgr (fun r e=>Vb)
  ·rw [q7V,List.length_append];exact k2.kept hgr (.inr (by simp only [Value.ownBlock];exact fun e=>m1 VG))
  ·exact ((h6.alloc h6.size o).grown k3 (by simp;have:=h6.size;omega) (fun k e=>Vb)).grown hgr V0 (fun k e=>Vb)
theorem q7W{W:World}{base n m g c:Nat}{xs:List Value}(h:W.ownsRow base 63 3 (.slice (some ⟨g,0,none⟩) m c) m xs)(hb:n+2 < base)(u v z:Value):(put3 W n u v z).ownsRow base 63 3 (.slice (some ⟨g,0,none⟩) m c) m xs:=by
 have hg:base<=g:=by
  rcases h.2 with ⟨h0,_⟩ | ⟨g',cap,cur,e1,hg,_⟩
  ·cases h0
  ·cases e1;exact hg
 refine ((h.kept (grownBy_setCell' W n u) (.inr ?_)).kept (grownBy_setCell' _ (n+1) v) (.inr ?_)).kept (grownBy_setCell' _ (n+2) z) (.inr ?_) <;>
  (simp only [Value.ownBlock];intro e;cases e;omega)
theorem pwords(s:ByteArray)(w:World):Calls Tryz.prog 99 #[.string s] w (PWordsP s w):=by
 by_cases h20:20000 < s.size
 ·exact q4K s h20 w
 have i1:decide ((20000:Int) < (s.size:Int))=false:=V4;obtain ⟨i0,hi,hz0,hz1,hz2⟩:=info_parts infoTk;have HIF:=Hi hi;have HZ0:=Hi hz0;have HZ1:=Hi hz1;have HZ2:=Hi hz2;have HTK:=Hi (ptokens s);have hs20:s.size<=20000:=V0;obtain ⟨hwB,hI0,hT0⟩:=q6D s w;have HWB:=Hi hwB;have HI0:=Hi hI0;have HT0:=Hi hT0;clear hi hz0 hz1 hz2 h20 hwB hI0 hT0;refine (callsIn_wide (n:=3)).1 ?_;refine callsIn_of_wp_marks Tryz.func99 rfl trivial ?_ rfl;simp only [Tryz.ntmps99,List.size_toArray,List.length_cons,List.length_nil,Nat.reduceAdd,Nat.reduceSub,Array.replicate_succ,Array.replicate_zero,List.push_toArray,List.append_toArray,List.nil_append,List.cons_append]
 gi_wp2_with (refine ⟨trivial,?_⟩;gi_at_call 126;refine (callsIn_wide.2 (HTK.out _)).mono ?_;rintro e w' ⟨rfl,hw2⟩;rw [hw2];clear hw2)
 simp only [Nat.add_assoc,Nat.reduceAdd];refine wpIn_rangeFunc_ownH (w:=wdB s w) rfl V2 (gf:=155) (lb:=#[.pointer (some ⟨w.heap.size+5,0,none⟩)]) rfl trivial (enters_of Tryz.func155 V1 rfl)
  (q4g 2 V2 (w.heap.size+4) (w.heap.size+5) s hs20 (wdB s w) HT0.out) ka_t (ka_b HT0.out.lt) (Below.refl _ _) (fun _=>rfl)
  (WdI w) (WdX w) (wdI_own w (by rw [HWB.out];omega)) (wdX_own w (by rw [HWB.out];omega)) HI0.out (WdA s w) (wdA_own s w) ?assign ?body ?done ?stop
 case assign=>
  intro l pre x W K hi hK;have hl4:w.heap.size+4 < W.heap.size:=by obtain ⟨_,_,_,⟨g,c,h4,_⟩,_⟩:=hi;exact h4.lt
  simp only [encT]
  gi_wp2
  exact hK _ _ ((KeepsOthers.alloc _ _).from _) (q7T hl4 _) (q6C hi _) ⟨W.heap.size,hl4,Aa.new _ _ _,rfl⟩
 case body=>
  rintro l pre ⟨⟨tk,ts,ta⟩,te⟩ a' W hl ⟨r,hr⟩ hI ⟨Bt,hBt,bt,rfl⟩ hlt;obtain ⟨h1,h2,h3,⟨g,c,h4,h5⟩,h6⟩:=hI;have hmx:Tryz.prog.follows .mixedOrders=true:=V1;have b0:=bt.cell 0;have b1:=bt.cell 1;have b2:=bt.cell 2;have l0:=h4.cell 0;have r0:=h3.1.cell 0;have r1:=h3.2.1.cell 0;have r2:=h3.2.2.cell 0;have f0:=h3.1.frozen 0;have f1:=h3.2.1.frozen 0;have f2:=h3.2.2.frozen 0;have f4:=h4.frozen 0;simp only [List.getElem?_toArray,List.getElem?_cons_zero,List.getElem?_cons_succ] at b0 b1 b2 l0 r0 r1 r2;have hws:=h6.size;dsimp only at b0 b1 b2 ⊢;have HR3:=Hi h3;have HB6:=Hi h6;have H1:=Hi h1;by_cases hte:te≠0
  ·have i2:((te:Int) != 0)=true:=by simp;omega
   have HX:Hid (WdX w .ret (pre ++ [(⟨tk,ts,ta⟩,te)]) (put3 W.drew w.heap.size (.slice none 0 0) (.int .i64 (ta:Int)) (.int .i64 (te:Int)))):=
    Hi ⟨rfl,pre,_,te,rfl,h1,h2,.inl ⟨hte,rfl⟩,q6z (W:=W.drew) h3 _ _ _,q2e (w:=W.drew) ⟨h6.os,h6.tape,h6.output,h6.size,h6.block⟩ (Nat.le_refl _) _ _ _⟩
   clear h1 h3 h4 h5 h6 hte bt;have hS0:W.drew.cell? ⟨Bt,2,none⟩=some (.int .i64 (ta:Int)):=b2
   gi_wp2
   refine Rd.region_in (S:=fun w'=>w'.cell? ⟨Bt,2,none⟩=some (.int .i64 (ta:Int))) hmx V1 (fun ⟨_,_,h⟩=>h) hS0 (fun hH=>?_);refine wpAnyH_take (i:=0) (v:=?_) rfl V1 V1 V1 (fun _ _ _ h=>h) (Or.inl ⟨V8,?_⟩) V0F ?_;rotate_left
   ·exact V0l
   try simp only [Act.put,List.getElem_toArray,List.getElem_cons_succ,List.getElem_cons_zero,List.setIfInBounds_toArray,List.set_cons_zero,List.set_cons_succ]
   refine wpAnyH_take (i:=1) (v:=?_) rfl V1 V1 V1 (fun _ _ _ h=>h) (Or.inl ⟨V8,?_⟩) V0F ?_;rotate_left
   ·exact V0l
   try simp only [Act.put,List.getElem_toArray,List.getElem_cons_succ,List.getElem_cons_zero,List.setIfInBounds_toArray,List.set_cons_zero,List.set_cons_succ]
   refine wpAnyH_take (i:=2) (v:=?_) rfl V1 V1 V1 (fun _ _ _ h=>h) (Or.inl ⟨V8,?_⟩) V0F ?_;rotate_left
   ·exact V0l
   try simp only [Act.put,List.getElem_toArray,List.getElem_cons_succ,List.getElem_cons_zero,List.setIfInBounds_toArray,List.set_cons_zero,List.set_cons_succ]
   refine wpAnyH_ready (rs:=[3]) V1 V3 (AllReadyH.cons rfl (fun K hK=>?_) AllReadyH.nil);go_simp;refine hK.out _ _ ((World.cell?_setCell_other _ _ _ _ V08).trans hH) (fun hN=>?_);clear hK K hH;have hH:=hN;clear hN
   try simp only [Act.put,List.getElem_toArray,List.getElem_cons_succ,List.getElem_cons_zero,List.setIfInBounds_toArray,List.set_cons_zero,List.set_cons_succ]
   refine wpAnyH_ready (rs:=[4]) V1 V3 (AllReadyH.cons rfl (fun K hK=>?_) AllReadyH.nil);go_simp;refine hK.out _ _ ((World.cell?_setCell_other _ _ _ _ V08).trans hH) (fun hN=>?_);clear hK K hH;have hH:=hN;clear hN
   try simp only [Act.put,List.getElem_toArray,List.getElem_cons_succ,List.getElem_cons_zero,List.setIfInBounds_toArray,List.set_cons_zero,List.set_cons_succ]
   refine wpAnyH_ready (rs:=[5]) V1 V3 (AllReadyH.cons rfl (fun K hK=>?_) AllReadyH.nil);go_simp;refine hK.out _ _ ((World.cell?_setCell_other _ _ _ _ V08).trans hH) (fun hN=>?_);clear hK K hH;have hH:=hN;clear hN
   try simp only [Act.put,List.getElem_toArray,List.getElem_cons_succ,List.getElem_cons_zero,List.setIfInBounds_toArray,List.set_cons_zero,List.set_cons_succ]
   refine wpAnyH_done V1 ?_ _;dsimp only [Exit.then]
   gi_wp2
   exact ⟨((KeepsOthers.drew W).trans (q2f W.drew _ _ _ _)).from _,HX.out⟩
  ·obtain rfl:te = 0:=by omega
   clear hte;by_cases h40:pre.length = 4000
   ·have i4:((pre.length:Int)==4000)=true:=by simp;omega
    have i5:decide ((pre.length:Int) = 4000)=true:=V4;have HX:Hid (WdX w .ret (pre ++ [(⟨tk,ts,ta⟩,0)]) (put3 W.drew w.heap.size (.slice none 0 0) (.int .i64 (ta:Int)) (.int .i64 150))):=
     Hi ⟨rfl,pre,_,150,rfl,h1,h2,.inr ⟨rfl,h40,rfl⟩,q6z (W:=W.drew) h3 _ _ _,q2e (w:=W.drew) ⟨h6.os,h6.tape,h6.output,h6.size,h6.block⟩ (Nat.le_refl _) _ _ _⟩
    clear h1 h3 h4 h5 h6 bt h40;have hS0:W.drew.cell? ⟨Bt,2,none⟩=some (.int .i64 (ta:Int)):=b2
    gi_wp2
    refine Rd.region_in (S:=fun w'=>w'.cell? ⟨Bt,2,none⟩=some (.int .i64 (ta:Int))) hmx V1 (fun ⟨_,_,h⟩=>h) hS0 (fun hH=>?_);refine wpAnyH_take (i:=0) (v:=?_) rfl V1 V1 V1 (fun _ _ _ h=>h) (Or.inl ⟨V8,?_⟩) V0F ?_;rotate_left
    ·exact V0l
    try simp only [Act.put,List.getElem_toArray,List.getElem_cons_succ,List.getElem_cons_zero,List.setIfInBounds_toArray,List.set_cons_zero,List.set_cons_succ]
    refine wpAnyH_take (i:=1) (v:=?_) rfl V1 V1 V1 (fun _ _ _ h=>h) (Or.inl ⟨V8,?_⟩) V0F ?_;rotate_left
    ·exact V0l
    try simp only [Act.put,List.getElem_toArray,List.getElem_cons_succ,List.getElem_cons_zero,List.setIfInBounds_toArray,List.set_cons_zero,List.set_cons_succ]
    refine wpAnyH_ready (rs:=[2]) V1 V3 (AllReadyH.cons rfl (fun K hK=>?_) AllReadyH.nil);go_simp;refine hK.out _ _ ((World.cell?_setCell_other _ _ _ _ V08).trans hH) (fun hN=>?_);clear hK K hH;have hH:=hN;clear hN
    try simp only [Act.put,List.getElem_toArray,List.getElem_cons_succ,List.getElem_cons_zero,List.setIfInBounds_toArray,List.set_cons_zero,List.set_cons_succ]
    refine wpAnyH_ready (rs:=[3]) V1 V3 (AllReadyH.cons rfl (fun K hK=>?_) AllReadyH.nil);go_simp;refine hK.out _ _ ((World.cell?_setCell_other _ _ _ _ V08).trans hH) (fun hN=>?_);clear hK K hH;have hH:=hN;clear hN
    try simp only [Act.put,List.getElem_toArray,List.getElem_cons_succ,List.getElem_cons_zero,List.setIfInBounds_toArray,List.set_cons_zero,List.set_cons_succ]
    refine wpAnyH_ready (rs:=[4]) V1 V3 (AllReadyH.cons rfl (fun K hK=>?_) AllReadyH.nil);go_simp;refine hK.out _ _ ((World.cell?_setCell_other _ _ _ _ V08).trans hH) (fun hN=>?_);clear hK K hH;have hH:=hN;clear hN
    try simp only [Act.put,List.getElem_toArray,List.getElem_cons_succ,List.getElem_cons_zero,List.setIfInBounds_toArray,List.set_cons_zero,List.set_cons_succ]
    refine wpAnyH_done V1 ?_ _;dsimp only [Exit.then]
    gi_wp2
    exact ⟨((KeepsOthers.drew W).trans (q2f W.drew _ _ _ _)).from _,HX.out⟩
   ·have i4:((pre.length:Int)==4000)=false:=by simp;omega
    have i5:decide ((pre.length:Int) = 4000)=false:=V4;have HNW:=Hi (show ∀ (j:Nat) u,[Value.int .i64 (tk:Int),.string ⟨ts.toArray⟩,.int .i64 (ta:Int)][j]?=some u->(W.alloc (.cells #[.int .i64 (tk:Int),.string ⟨ts.toArray⟩,.int .i64 (ta:Int)] 63)).cell? ((⟨W.heap.size,0,none⟩:Addr).add j)=some u from fun j u hj=>by
     rw [Args.add_plain,Nat.zero_add,World.cell?_alloc_at _ _ _ _ rfl];simpa using hj)
    obtain ⟨n1,n2,n3⟩:=q6E h5 h4;have HOA:=Hi (show (W.alloc (.cells #[.int .i64 (tk:Int),.string ⟨ts.toArray⟩,.int .i64 (ta:Int)] 63)).ownsRow (w.heap.size+3) 63 3 (.slice (some ⟨g,0,none⟩) pre.length c) pre.length ((tks pre).flatMap tkC) from World.ownsRow.alloc h5 _);have HFIN:=Hi fun g' c' w8 k2 k3 k4=>q6F (w8:=w8) (g':=g') (c':=c') (o:=.cells #[.int .i64 (tk:Int),.string ⟨ts.toArray⟩,.int .i64 (ta:Int)] 63) (t:=⟨tk,ts,ta⟩) h1 V0 h3 h4 h5 h6 k2 k3 k4
    have HL4:=Hi h4;have hl4:=h4.lt;clear h1 h3 h4 h5 h6 bt h40
    gi_wp2_with (gi_at_builtin;refine q30 _ rfl (.tmp 26) (.tmp 28) 55 rfl (w.heap.size+3) 63 i0 (.agg #[.int .i64 0,.string ⟨#[]⟩,.int .i64 0]) 3 32 Tryz.underlying55 HIF.out HZ0.out HZ1.out HZ2.out rfl V2 _ pre.length _ rfl HOA.out ⟨W.heap.size,0,none⟩ 1 1 [.int .i64 (tk:Int),.string ⟨ts.toArray⟩,.int .i64 (ta:Int)] rfl rfl HNW.out V0s V6 V0 V4 V2 ?_;intro g' c' w8 k2 k3 k4;have HF8:=Hi (HFIN.out g' c' w8 k2 k3 k4);have l8:w8.cell? ⟨w.heap.size+4,0,none⟩=some (.slice (some ⟨g,0,none⟩) pre.length c):=(show Aa w8 (w.heap.size+4) 55 #[.slice (some ⟨g,0,none⟩) pre.length c] from (k3.block _ V4 (fun e=>n1 VG)).trans (HL4.out.alloc _)).cell 0;have f8:w8.frozen? ⟨w.heap.size+4,0,none⟩=false:=(show Aa w8 (w.heap.size+4) 55 #[.slice (some ⟨g,0,none⟩) pre.length c] from (k3.block _ V4 (fun e=>n1 VG)).trans (HL4.out.alloc _)).frozen 0;clear k2 k3 k4)
    obtain ⟨q1,q2,q3⟩:=HF8.out;exact ⟨q1.from _,q2,q3⟩
 case done=>
  rintro D xs W hD rfl ⟨h1,h2,h3,⟨g,c,h4,h5⟩,h6⟩ hK;have hw:=q5N (s:=s.data.toList) (by rw [q1H];exact hs20) h1 h2;have hl:(bV s.data.toList).length=(tks (bV s.data.toList)).length:=by simp [tks]
  generalize (bV s.data.toList).length=N at *;have l0:=h4.cell 0;have r0:=h3.1.cell 0;have r1:=h3.2.1.cell 0;have r2:=h3.2.2.cell 0;have f0:=h3.1.frozen 0;have f1:=h3.2.1.frozen 0;have f2:=h3.2.2.frozen 0;simp only [List.getElem?_toArray,List.getElem?_cons_zero,List.getElem?_cons_succ] at l0 r0 r1 r2;have hk2:=(q2f W w.heap.size (.slice (some ⟨g,0,none⟩) N c) (.int .i64 0) (.int .i64 0)).same D _ hK rfl;have hsz:=HWB.out;have hr9:=q5f (B:=0) (q6z h3 (.slice (some ⟨g,0,none⟩) N c) (.int .i64 0) (.int .i64 0)) (grownBy_putObj' _ D (.deferred none)) (fun r e=>V4k);have hb9:=q13 (q2e h6 (Nat.le_refl _) (.slice (some ⟨g,0,none⟩) N c) (.int .i64 0) (.int .i64 0)) (.deferred none) (by omega:w.heap.size<=D) hk2;have ho9:=q6B (B:=0) (q7W (n:=w.heap.size) h5 V0 (.slice (some ⟨g,0,none⟩) N c) (.int .i64 0) (.int .i64 0)) (grownBy_putObj' _ D (.deferred none)) (fun r e=>V4k);have HR9:=Hi hr9;have HK:=Hi hk2;have hcap:=own_cap ho9;have HP:Hid (PWordsP s w (.returned (.tuple #[.slice (some ⟨g,0,none⟩) N c,.int .i64 0,.int .i64 0])) ((put3 W w.heap.size (.slice (some ⟨g,0,none⟩) N c) (.int .i64 0) (.int .i64 0)).putObj D (.deferred none))):=
   Hi ⟨some ⟨g,0,none⟩,c,by rw [hw];show _=Ending.returned (.tuple #[.slice (some ⟨g,0,none⟩) (tks (bV s.data.toList)).length c,_,_]);rw [<-hl];rfl,by rw [hw];exact q0o ho9,hb9,by rw [hw];show (tks (bV s.data.toList)).length<=c;rw [<-hl];exact hcap.1,hcap.2⟩
  clear h1 h2 h3 h4 h5 h6 hw hl hr9 hb9 ho9 hsz;exact V3k
 case stop=>
  rintro D c pre W hD hp ⟨rfl,q,x,er,rfl,h1,h2,h3,h4,h5⟩ hK;obtain ⟨w1,w2⟩:=q5O (s:=s.data.toList) (by rw [q1H];exact hs20) hp h1 h2;have hw:af s.data.toList=⟨[],x.1.at_,er⟩:=by
   rcases h3 with ⟨e1,rfl⟩ | ⟨e1,e2,rfl⟩
   ·exact w1 e1
   ·exact w2 e1 e2
  have hsz:=HWB.out;have hr9:=q5f (B:=0) h4 (grownBy_putObj' _ D (.deferred none)) (fun r e=>by cases e;exact ⟨Nat.zero_le _,_,hK,rfl⟩);have hb9:=q13 h5 (.deferred none) (by omega:w.heap.size<=D) hK;have HR9:=Hi hr9;have HK:=Hi hK;have HP:Hid (PWordsP s w (.returned (.tuple #[.slice none 0 0,.int .i64 (x.1.at_:Int),.int .i64 (er:Int)])) (W.putObj D (.deferred none))):=
   Hi ⟨none,0,by rw [hw];rfl,by rw [hw];exact Af.nil _ _,hb9,by rw [hw];exact Nat.le_refl _,V2⟩
  clear h1 h2 h3 h4 h5 hw w1 w2 hr9 hb9 hsz hK hp;exact V3k
end
end Lx
namespace Pa
open Go Go.ChangeShapes Go.WideShapes Go.ChangeAt Go.RowKit Lx Args
section
attribute [local go_sem] bH bI bJ
theorem q3A(w:World)(bp:Nat)(l:List Tk)(hp:PS w bp l 0)(hg:Gt l):Calls Tryz.prog 97 #[.pointer (some ⟨bp,0,none⟩)] w (AB w bp 0 (tX :: l) (Al l)):=program w bp l hp hg
theorem q5D(w:World)(bp:Nat)(l:List Tk)(hp:PS w bp l 0)(hg:Gt l) :
  Calls Tryz.prog 96 #[.pointer (some ⟨bp,0,none⟩)] w (AB w bp 0 (tX :: l) (Al l)):=by
 obtain ⟨w0,hw0,hb0,hB⟩:=aS w #[.int .i64 0,.string ⟨#[]⟩,.int .u32 0,.int .i64 0,.slice none 0 0,.slice none 0 0] 26;have hlt:=hp.lt;have HS:=Hi (q3A w0 bp l (hp.below hb0) hg);have HB0:=Hi hb0;have HB:=Hi hB;have HW:=Hi hw0;clear hb0 hp hw0 hB hg;go_enter Tryz.func96,Tryz.ntmps96;go_wp2_with fail
 rw [HW.out];refine HS.out.mono ?_;rintro e w1 (⟨k,a,s,n,A,la,cA,B,lb,cB,x,r,rfl,hT,hR,hP,hG,hr,hU⟩ | ⟨a,er,rfl,hR,hU⟩)
 ·exact V2j
 ·exact V36
def BadR(R:List Tk->Out->Prop)(W:Wd)(a er:Nat):Prop:=(W.er≠0/\a=W.at_/\er=W.er)\/(W.er = 0/\(R W.l (.bad a er)\/∃ xs t r,R W.l (.ok xs (t :: r))/\t.k≠0/\a=t.at_/\er = 100))
def RdP(R:List Tk->Out->Prop)(s:ByteArray)(w:World)(e:Ending)(w':World):Prop:=
 (∃ k a sx n A la cA B lb cB x t r,e = .returned (.tuple #[.agg #[.int .i64 (k:Nat),.string ⟨(sx:Bs).toArray⟩,.int .u32 (n:Nat),.int .i64 (a:Nat),.slice A la cA,.slice B lb cB],.int .i64 0,.int .i64 0])/\(af s.data.toList).er = 0/\R (af s.data.toList).l (.ok [x] (t :: r))/\t.k = 0 /\
  Ak (fun b=>w.heap.size<=b) w' x (bG k a sx n A la cA B lb cB)/\Below w.heap.size w w') \/
 (∃ a er,e = .returned (.tuple #[.agg #[.int .i64 0,.string ⟨#[]⟩,.int .u32 0,.int .i64 0,.slice none 0 0,.slice none 0 0],.int .i64 (a:Nat),.int .i64 (er:Nat)])/\BadR R (af s.data.toList) a er/\Below w.heap.size w w')
theorem q8C:∀ (f:Nat) (bs:Bs) (i n:Nat),n<=4000->(goL f bs i n).l.length+n<=4000
 | 0,_,_,n,h=>by show 0+n<=4000;omega
 | f+1,[],i,n,h=>by
  show (if n = 4000 then (⟨[],i,150⟩:Wd) else ⟨[⟨0,[],i⟩],0,0⟩).l.length+n<=4000;split
  ·show 0+n<=4000;omega
  ·show 1+n<=4000;omega
 | f+1,c :: r,i,n,h=>by
  rcases ht:aW c r with _ | ⟨k,m⟩
  ·rw [q3g ht];show 0+n<=4000;omega
  ·rw [q1Q ht];split
   ·show 0+n<=4000;omega
   ·have:=q8C f (aZ ((c :: r).drop m)) (i+m+aj false ((c :: r).drop m)) (n+1) V0;unfold Wd.cons;split
    ·show (goL f _ _ _).l.length+1+n<=4000;omega
    ·omega
theorem q6G(s:Bs):(af s).l.length<=4000:=by
 unfold af;split
 ·exact Nat.zero_le _
 ·have:=q8C (s.length+1) (s.drop (aj false s)) (aj false s) 0 (Nat.zero_le _);omega
theorem q3B{s:Bs}(h:(af s).er = 0):Gt (af s).l:=by
 refine ⟨q4V h,fun t ht=>⟨q5R s t ht,?_⟩,?_⟩
 ·obtain ⟨j,hj,hjt⟩:=List.getElem_of_mem ht;have hx:(af s).l[j]?=some t:=by rw [List.getElem?_eq_getElem hj,hjt]
  have h1:=(q1M s h).2 j t hx;have h2:s.length<=20000:=by
   rcases Nat.lt_or_ge 20000 s.length with h3 | h3
   ·rw [q27 _ h3] at h;exact absurd h V0q
   ·exact h3
  have h3:((s.drop t.at_).take t.s.length).length=t.s.length:=by rw [h1.2.1]
  rw [List.length_take,List.length_drop] at h3;omega
 ·exact q6G s
end
section
attribute [local go_sem] bH bI bJ
theorem boxes(w:World):∃ w0,((w.alloc (.cells #[.int .i64 0,.string ⟨#[]⟩,.int .u32 0,.int .i64 0,.slice none 0 0,.slice none 0 0] 26)).alloc (.cells #[.int .i64 0] 3)).alloc (.cells #[.int .i64 0] 27)=w0/\Below w.heap.size w w0/\w0.heap.size=w.heap.size+3 /\
  Aa w0 w.heap.size 26 #[.int .i64 0,.string ⟨#[]⟩,.int .u32 0,.int .i64 0,.slice none 0 0,.slice none 0 0]/\Aa w0 (w.heap.size+1) 3 #[.int .i64 0]/\Aa w0 (w.heap.size+2) 27 #[.int .i64 0]:=by
 refine ⟨_,rfl,(((Below.refl _ _).alloc (Nat.le_refl _) _).alloc V3 _).alloc V4 _,V3,((Aa.new _ _ _).alloc _).alloc _,?_,?_⟩
 ·have h:=(Aa.new (w.alloc (.cells #[.int .i64 0,.string ⟨#[]⟩,.int .u32 0,.int .i64 0,.slice none 0 0,.slice none 0 0] 26)) 3 #[.int .i64 0]).alloc (.cells #[.int .i64 0] 27);have e:(w.alloc (.cells #[.int .i64 0,.string ⟨#[]⟩,.int .u32 0,.int .i64 0,.slice none 0 0,.slice none 0 0] 26)).heap.size=w.heap.size+1:=V3;rw [e] at h;exact h
 ·have h:=Aa.new ((w.alloc (.cells #[.int .i64 0,.string ⟨#[]⟩,.int .u32 0,.int .i64 0,.slice none 0 0,.slice none 0 0] 26)).alloc (.cells #[.int .i64 0] 3)) 27 #[.int .i64 0];have e:((w.alloc (.cells #[.int .i64 0,.string ⟨#[]⟩,.int .u32 0,.int .i64 0,.slice none 0 0,.slice none 0 0] 26)).alloc (.cells #[.int .i64 0] 3)).heap.size=w.heap.size+2:=V3;rw [e] at h;exact h
theorem res3{g:Nat}{n:Array Value}{a b:Value}{W:World}(hN:Aa W g 26 n)(hs:some 6=some n.size)(hA:Aa W (g+1) 3 #[a])(hE:Aa W (g+2) 27 #[b])(tmps:Array Value)
  (h4:tmps.getD 4 undef = .pointer (some ⟨g,0,none⟩)) (h5:tmps.getD 5 undef = .pointer (some ⟨g+1,0,none⟩)) (h6:tmps.getD 6 undef = .pointer (some ⟨g+2,0,none⟩)) :
  (results Tryz.f67 tmps).run Tryz.prog W = .ok (.tuple #[.agg n,a,b]) W:=
 q1N rfl tmps W g (g+1) (g+2) (.agg n) a b h4 h5 h6 (run_loadVar_row W g 26 26 n (0,0) _ hN Tryz.underlying26 rfl (szNd.trans hs)) (q05 (isAggI W) (hA.cell 0)) (q05 (isAggE W) (hE.cell 0))
def KA2(g a er:Nat)(w:World):Prop:=w.cell? ⟨g+1,0,none⟩=some (.int .i64 (a:Int))/\w.cell? ⟨g+2,0,none⟩=some (.int .i64 (er:Int))
theorem KA2.of{g a er:Nat}{w:World}(h:Aa w (g+1) 3 #[.int .i64 (a:Int)])(h2:Aa w (g+2) 27 #[.int .i64 (er:Int)]):KA2 g a er w:=⟨h.cell 0,h2.cell 0⟩
theorem q2q(s:ByteArray)(w:World)(h:(af s.data.toList).er≠0) :
  Calls Tryz.prog 67 #[.string s,.func (.func 96) #[] #[]] w (RdP Al s w):=by
 obtain ⟨w0,hw0,hb0,hs0,hN,hA,hE⟩:=boxes w;have hwd:=pwords s w0;have hnil:=q5H s.data.toList h;have HBAD:=Hi (show BadR Al (af s.data.toList) (af s.data.toList).at_ (af s.data.toList).er from .inl ⟨h,rfl,rfl⟩);have hne:(((af s.data.toList).er:Int) != 0)=true:=V4;unfold PWordsP at hwd;obtain ⟨a,ha⟩:∃ a,(af s.data.toList).at_=a:=⟨_,rfl⟩;obtain ⟨er,her⟩:∃ er,(af s.data.toList).er=er:=⟨_,rfl⟩;rw [ha,her] at HBAD hwd;rw [her] at hne;have HWD:=Hi hwd;have HB0:=Hi hb0;have HN:=Hi hN;have HA:=Hi hA;have HE:=Hi hE;have HW:=Hi hw0;obtain ⟨g,hg⟩:∃ g,w.heap.size=g:=⟨_,rfl⟩;have HG:=Hi hg;rw [hg] at HN HA HE;clear hb0 hN hA hE hw0 h hnil hwd ha her;go_enter Tryz.func67,Tryz.ntmps67;go_wp2_with fail
 simp only [Nat.add_assoc,Nat.reduceAdd];rw [HW.out];refine HWD.out.mono ?_;rintro e w1 ⟨A,c,rfl,hL,hb1,hc1,hc2⟩;have hN1:=HN.out.below hb1 HN.out.lt;have hA1:=HA.out.below hb1 HA.out.lt;have hE1:=HE.out.below hb1 HE.out.lt;obtain ⟨⟨e0,e1,e2,e3,e4,e5⟩,z0,z1,z2,z3,z4,z5⟩:=Aa.c6 hN1;have c1:w1.cell? ⟨g+1,0,none⟩=some (.int .i64 0):=hA1.cell 0;have c2:w1.cell? ⟨g+2,0,none⟩=some (.int .i64 0):=hE1.cell 0;have f1:=hA1.frozen 0;have f2:=hE1.frozen 0;have HN1:=Hi hN1;have HA1:=Hi hA1;have HE1:=Hi hE1;have HB1:=Hi (HB0.out.trans (hb1.mono HB0.out.size));clear hN1 hA1 hE1 hL hc1 hc2;go_upto_region 3 with fail
 obtain ⟨w2,hw2⟩:∃ w2,(w1.setCell ⟨g+1,0,none⟩ (.int .i64 (a:Int))).setCell ⟨g+2,0,none⟩ (.int .i64 (er:Int))=w2:=⟨_,rfl⟩;have hg01:g≠g+1:=V0;have hg02:g≠g+2:=V0;have hg12:g+1≠g+2:=V0;have hN2:Aa w2.drew g 26 #[.int .i64 0,.string ⟨#[]⟩,.int .u32 0,.int .i64 0,.slice none 0 0,.slice none 0 0]:=by rw [<-hw2];exact ((HN1.out.far (p:=⟨g+1,0,none⟩) hg01 _).far (p:=⟨g+2,0,none⟩) hg02 _).drew
 have hA2:Aa w2.drew (g+1) 3 #[.int .i64 (a:Int)]:=by rw [<-hw2];exact ((HA1.out.set 0 _).far (p:=⟨g+2,0,none⟩) hg12 _).drew
 have hE2:Aa w2.drew (g+2) 27 #[.int .i64 (er:Int)]:=by rw [<-hw2];exact ((HE1.out.far (p:=⟨g+1,0,none⟩) (Ne.symm hg12) _).set 0 _).drew
 have hb2:Below w.heap.size w w2.drew:=by rw [<-hw2];exact q0l (((HB1.out.setCell (p:=⟨g+1,0,none⟩) (by show w.heap.size<=g+1;omega) _).setCell (p:=⟨g+2,0,none⟩) (by show w.heap.size<=g+2;omega) _)) 1
 rw [hw2];clear hw2 e0 e1 e2 e3 e4 e5 z0 z1 z2 z3 z4 z5 c1 c2 f1 f2;refine HT.wp_region (Z:=fun w'=>KA2 g a er w') (S:=fun _=>True) (st:=[]) V1 ?_;obtain ⟨w3,hw3⟩:∃ w3,w2.drew=w3:=⟨_,rfl⟩;rw [hw3] at hN2 hA2 hE2 hb2 ⊢;clear hw3;have aa:KA2 g a er w3:=KA2.of hA2 hE2;refine HT.bg (i:=0) (v:=?_) rfl V1 V1 V1 V1 (fun _ _ _ h=>h) (Or.inl ⟨V8,?_⟩) aa (fun _=>trivial) ?_;rotate_left
 ·exact VC
 (try simp only [HT.pS]);refine HT.bg (i:=1) (v:=?_) rfl V1 V1 V1 V1 (fun _ _ _ h=>h) (Or.inl ⟨V8,?_⟩) aa (fun _=>trivial) ?_;rotate_left
 ·exact VC
 (try simp only [HT.pS]);refine HT.bg (i:=2) (v:=?_) rfl V1 V1 V1 V1 (fun _ _ _ h=>h) (Or.inl ⟨V8,?_⟩) aa (fun _=>trivial) ?_;rotate_left
 ·exact VC
 (try simp only [HT.pS]);obtain ⟨⟨e0,e1,e2,e3,e4,e5⟩,z0,z1,z2,z3,z4,z5⟩:=Aa.c6 hN2;have c1:w3.cell? ⟨g+1,0,none⟩=some (.int .i64 (a:Int)):=hA2.cell 0;have c2:w3.cell? ⟨g+2,0,none⟩=some (.int .i64 (er:Int)):=hE2.cell 0;have f1:=hA2.frozen 0;have f2:=hE2.frozen 0;have hA3:Aa _ (g+1) 3 #[.int .i64 (a:Int)]:=q0u hA2 (Ne.symm hg01) (.int .i64 0) (.string ⟨#[]⟩) (.int .u32 0) (.int .i64 0) (.slice none 0 0) (.slice none 0 0);have hE3:Aa _ (g+2) 27 #[.int .i64 (er:Int)]:=q0u hE2 (Ne.symm hg02) (.int .i64 0) (.string ⟨#[]⟩) (.int .u32 0) (.int .i64 0) (.slice none 0 0) (.slice none 0 0);have hN3:=Aa.az hN2 (.int .i64 0) (.string ⟨#[]⟩) (.int .u32 0) (.int .i64 0) (.slice none 0 0) (.slice none 0 0);have hA4:Aa _ (g+1) 3 #[.int .i64 (a:Int)]:=hA3.set 0 (.int .i64 (a:Int));have hE4:=hE3.far (p:=⟨g+1,0,none⟩) (Ne.symm hg12) (.int .i64 (a:Int));have hN4:=hN3.far (p:=⟨g+1,0,none⟩) hg01 (.int .i64 (a:Int));have hA5:=hA4.far (p:=⟨g+2,0,none⟩) hg12 (.int .i64 (er:Int));have hE5:Aa _ (g+2) 27 #[.int .i64 (er:Int)]:=hE4.set 0 (.int .i64 (er:Int));have hN5:=hN4.far (p:=⟨g+2,0,none⟩) hg02 (.int .i64 (er:Int));have bn:=((q09 (X:=fun b=>g<=b) (Upd.of_below hb2 _) (fun _=>Nat.le_refl g) (.int .i64 0) (.string ⟨#[]⟩) (.int .u32 0) (.int .i64 0) (.slice none 0 0) (.slice none 0 0)).setCell (p:=⟨g+1,0,none⟩) (fun _=>by show g<=g+1;omega) (.int .i64 (a:Int))).setCell (p:=⟨g+2,0,none⟩) (fun _=>by show g<=g+2;omega) (.int .i64 (er:Int));have Ac:=Hi (show RdP Al s w (.returned (.tuple #[.agg #[.int .i64 0,.string ⟨#[]⟩,.int .u32 0,.int .i64 0,.slice none 0 0,.slice none 0 0],.int .i64 (a:Int),.int .i64 (er:Int)])) _ from .inr ⟨a,er,rfl,HBAD.out,bn.below (Nat.le_refl _) fun k hk=>V0⟩);refine HT.one (i:=3) V1 rfl (fun K hK=>?_);go_simp;refine hK.out _ _ (KA2.of hA3 hE3) trivial ?_;clear hK K;(try simp only [HT.pS]);refine HT.one (i:=4) V1 rfl (fun K hK=>?_);go_simp;refine hK.out _ _ (KA2.of hA4 hE4) trivial ?_;clear hK K;(try simp only [HT.pS]);refine HT.one (i:=5) V1 rfl (fun K hK=>?_);go_simp;refine hK.out _ _ (KA2.of hA5 hE5) trivial ?_;clear hK K;(try simp only [HT.pS]);refine HT.done V1 ?_;dsimp only [Exit.then];(try simp only [HT.pS]);have HN5:=Hi hN5;have HA5:=Hi hA5;have HE5:=Hi hE5;clear hN2 hA2 hE2 hN3 hA3 hE3 hN4 hA4 hE4 hN5 hA5 hE5 bn hb2 aa;go_wp2_with fail
 exact bodyPost_ret (res3 HN5.out rfl HA5.out HE5.out _ rfl rfl rfl) rfl Ac.out
end
end Pa
end Go.Proofs.YtcgibpdjfgjldaaGreatDoor
