/- DERIVED. NmSt, NmIs, NmSm. By an AI agent. -/
import Derived.Test.YtdhoemlomojfaaaGreatDoorW10
import Derived.Test.YtdhoemlomojfaaaGreatDoorW11
import Derived.Test.YtdhoemlomojfaaaGreatDoorW07
import Derived.Test.YtdhoemlomojfaaaGreatDoorW01
set_option maxRecDepth 100000
set_option maxHeartbeats 1000000
set_option linter.unusedVariables false
set_option linter.unusedSimpArgs false
namespace Go.Proofs.YtdhoemlomojfaaaGreatDoor.Nm
open Go Go.ChangeShapes Go.WideShapes Go.ChangeAt Go.RowKit Lx Args Pa Sh
abbrev nzA(k a:Int)(s:Bs)(n:Nat)(A:Option Addr)(la cA:Nat)(B:Option Addr)(lb cB:Nat):Value:=.agg #[.int .i64 k,.string ⟨s.toArray⟩,.int .u32 (n:Int),.int .i64 a,.slice A la cA,.slice B lb cB]
abbrev nB(k a:Int)(s:Bs)(n:Nat)(A:Option Addr)(la cA:Nat)(B:Option Addr)(lb cB:Nat):Array Value:=#[.int .i64 k,.string ⟨s.toArray⟩,.int .u32 (n:Int),.int .i64 a,.slice A la cA,.slice B lb cB]
theorem a_box(w:World)(cs:Array Value):∃ w1,w.alloc (.cells cs 62)=w1∧Below w.heap.size w w1∧Blk w1 w.heap.size 62 cs∧w1.heap.size=w.heap.size+1:=
 ⟨_,rfl,(Below.refl _ _).alloc (Nat.le_refl _) _,Blk.new _ _ _,by simp⟩
theorem own_updV{X:Nat→Prop}{w w':World}{base:Nat}{e:TypeId}{size n:Nat}{v:Value}{xs:List Value}(h:w.ownsRow base e size v n xs)(hu:Upd X w w')(hX:∀ g,v.ownBlock=some g→¬ X g):w'.ownsRow base e size v n xs:=by
 obtain ⟨h1,h2⟩:=h;refine ⟨h1,?_⟩;rcases h2 with h2 | ⟨g,cap,cur,e1,h3,h4,h5⟩
 ·exact .inl h2
 ·have hg:g < w.heap.size:=(Array.getElem?_eq_some_iff.1 h4).1;exact .inr ⟨g,cap,cur,e1,h3,(hu.block _ hg (hX g (by rw [e1];rfl))).trans h4,h5⟩
theorem own_atV{w:World}{lo:Nat}{e:TypeId}{size n:Nat}{v:Value}{xs:List Value}(h:w.ownsRow lo e size v n xs):∀ g,v.ownBlock=some g→lo≤g∧g < w.heap.size:=fun g hg=>by
 rcases h.2 with ⟨h,_⟩ | ⟨g',cap,cur,h,hb,hh,_⟩
 ·rw [h] at hg;cases hg
 ·rw [h] at hg;cases hg;exact ⟨hb,(Array.getElem?_eq_some_iff.1 hh).1⟩
theorem own_take{w:World}{lo:Nat}{e:TypeId}{size n k c:Nat}{A:Option Addr}{xs:List Value}(h:w.ownsRow lo e size (.slice A n c) n xs)(hk:k≤n)(hA:A≠none):w.ownsRow lo e size (.slice A k c) k (xs.take (k * size)):=by
 obtain ⟨h1,h2⟩:=h;have hks:k * size≤n * size:=Nat.mul_le_mul_right _ hk;refine ⟨by rw [List.length_take,h1];omega,?_⟩;rcases h2 with ⟨h2,_⟩ | ⟨g,cap,cur,e1,h3,h4,h5,h6,h7,h8⟩
 ·cases h2;exact absurd rfl hA
 ·cases e1;refine .inr ⟨g,c,cur,rfl,h3,h4,by omega,h6,h7,?_⟩;rw [←h8,List.take_take]
  congr 1
  omega
theorem run_app_any{P:Program}{w:World}(base:Nat)(t ty e:TypeId)(i:TypeInfo)(z:Value)(size bytes:Nat)(ht:P.underlying t=some (.slice e))(hi:P.info? e=some i)(hz:i.zero=some z)
  (hsize:i.size=size) (hby:i.bytes=bytes) (hzs:z.cells.size=size) (hsz:0 < size) (v:Value) (n:Nat) (xs:List Value) (hown:w.ownsRow base e size v n xs)
  (A:Option Addr) (m d:Nat) (news:List Value) (hl:news.length=m * size) (hL:Lies w A news) (h1:∀ u∈news,u.oneCell'=true) (h63:n+m≤maxLen) (hbytes:(n+m) * bytes≤140737488355328) (hbase:base≤w.heap.size) :
  ∃ v' w',(Builtin.append_ #[t,t] ty #[v,.slice A m d]).run P w = .ok v' w'∧w'.ownsRow base e size v' (n+m) (xs ++ news)∧w.grownBy w' v.ownBlock∧(v'.ownBlock=v.ownBlock∨v'.ownBlock=some w.heap.size):=by
 rcases Nat.eq_zero_or_pos m with hm | hm
 ·subst hm;have hn:news=[]:=List.eq_nil_of_length_eq_zero (by omega);subst hn;refine ⟨v,w,?_,by simpa using hown,World.grownBy.refl w _,.inl rfl⟩;have hf:∀ A,(Builtin.firstCells i.size 0 (.slice A 0 d)).run P w = .ok #[] w:=fun A=>by
   cases A with
   | none=>exact run_firstCells_none _ _ _ _ _
   | some a=>exact run_firstCells_some (P:=P) w i.size 0 a 0 d [] (by simp) (by simp)
  rcases hown.2 with ⟨rfl,rfl⟩ | ⟨g,cap,cur,rfl,_,_,hnc,_⟩
  ·simp [Builtin.append_,run_underlying ht,sizeOf,typeInfo,hi,Builtin.lenOf,hf]
  ·simp [Builtin.append_,run_underlying ht,sizeOf,typeInfo,hi,Builtin.lenOf,hf,hnc,storeCells]
 ·cases A with
  | none=>
   have:0 < news.length:=by rw [hl];exact Nat.mul_pos hm hsz
   obtain ⟨a,ha,_⟩:=hL 0 (news[0]) (List.getElem?_eq_getElem this);cases ha
  | some a=>exact run_append_where (P:=P) w base t ty e i z size bytes ht hi hz hsize hby hzs hsz v n xs hown a m d news hl (fun j u hj=>by
   obtain ⟨b,hb,hc⟩:=hL j u hj;cases hb;exact hc) h1 h63 hbytes hbase hm
def laC(x:Bs×Bool):List Value:=[.string ⟨x.1.toArray⟩,.bool false,.bool x.2]
def Dis(L:List (Option Nat)):Prop:=L.Pairwise fun a b=>∀ x,a=some x→b≠some x
structure CV(N:Nat→Prop)(lo:Nat)(w:World)(g:Nat)(vs vp vo ve:Value)(kb ob:Nat)(se pu:List Bs)(ou:List (Bs×Bool))(en:List Bs)(kn:Kn)(f:Bs→Bool)(m:Nat):Prop where
 blk:Blk w g 112 #[vs,vp,vo,.map (some kb),.map (some ob),ve]
 os:w.ownsRow lo 9 1 vs se.length (se.map strV)
 op:w.ownsRow lo 9 1 vp pu.length (pu.map strV)
 oo:w.ownsRow lo 158 3 vo ou.length (ou.flatMap laC)
 oe:w.ownsRow lo 9 1 ve en.length (en.map strV)
 mp:MpK w kb m kn
 ms:MpS w ob m f
 dis:Dis [some g,some kb,some ob,vs.ownBlock,vp.ownBlock,vo.ownBlock,ve.ownBlock]
 inN:∀ x∈[some g,some kb,some ob,vs.ownBlock,vp.ownBlock,vo.ownBlock,ve.ownBlock],∀ b,x=some b→N b
 lo_:lo≤g∧lo≤kb∧lo≤ob∧lo≤w.heap.size
section
variable {N N' X : Nat → Prop} {lo : Nat} {w w' : World} {g : Nat} {vs vp vo ve v' : Value} {kb ob : Nat} {se pu : List Bs} {ou : List (Bs × Bool)} {en : List Bs} {kn : Kn} {f : Bs → Bool} {m m' : Nat}
theorem CV.far(h:CV N lo w g vs vp vo ve kb ob se pu ou en kn f m)(hu:Upd X w w')(hX:∀ b,N b→¬ X b):CV N lo w' g vs vp vo ve kb ob se pu ou en kn f m:=
 ⟨h.blk.upd hu (hX g (h.inN _ (by simp) g rfl)),own_updV h.os hu fun b hb=>hX b (h.inN _ (by simp) b hb),own_updV h.op hu fun b hb=>hX b (h.inN _ (by simp) b hb),own_updV h.oo hu fun b hb=>hX b (h.inN _ (by simp) b hb),
  own_updV h.oe hu fun b hb=>hX b (h.inN _ (by simp) b hb),h.mp.upd hu (hX kb (h.inN _ (by simp) kb rfl)),h.ms.upd hu (hX ob (h.inN _ (by simp) ob rfl)),h.dis,h.inN,h.lo_.1,h.lo_.2.1,h.lo_.2.2.1,Nat.le_trans h.lo_.2.2.2 hu.size⟩
theorem CV.below(h:CV N lo w g vs vp vo ve kb ob se pu ou en kn f m)(hb:Below w.heap.size w w'):CV N lo w' g vs vp vo ve kb ob se pu ou en kn f m:=h.far (Upd.of_below hb fun _=>False) fun _ _ h=>h
theorem CV.lts(h:CV N lo w g vs vp vo ve kb ob se pu ou en kn f m):∀ x∈[some g,some kb,some ob,vs.ownBlock,vp.ownBlock,vo.ownBlock,ve.ownBlock],∀ b,x=some b→b < w.heap.size∧lo≤b:=fun x hx b hb=>by
 simp only [List.mem_cons,List.not_mem_nil,or_false] at hx;rcases hx with e | e | e | e | e | e | e
 ·rw [e] at hb;cases hb;exact ⟨h.blk.lt,h.lo_.1⟩
 ·rw [e] at hb;cases hb;exact ⟨h.mp.lt,h.lo_.2.1⟩
 ·rw [e] at hb;cases hb;exact ⟨h.ms.lt,h.lo_.2.2.1⟩
 ·rw [e] at hb;exact (own_atV h.os b hb).symm
 ·rw [e] at hb;exact (own_atV h.op b hb).symm
 ·rw [e] at hb;exact (own_atV h.oo b hb).symm
 ·rw [e] at hb;exact (own_atV h.oe b hb).symm
theorem CV.mono(h:CV N lo w g vs vp vo ve kb ob se pu ou en kn f m)(hN:∀ b,N b→b < w.heap.size→lo≤b→N' b):CV N' lo w g vs vp vo ve kb ob se pu ou en kn f m:=
 ⟨h.blk,h.os,h.op,h.oo,h.oe,h.mp,h.ms,h.dis,fun x hx b hb=>hN b (h.inN x hx b hb) (h.lts x hx b hb).1 (h.lts x hx b hb).2,h.lo_⟩
theorem CV.more(h:CV N lo w g vs vp vo ve kb ob se pu ou en kn f m)(hm:m≤m'):CV N lo w g vs vp vo ve kb ob se pu ou en kn f m':=⟨h.blk,h.os,h.op,h.oo,h.oe,h.mp.mono hm,h.ms.mono hm,h.dis,h.inN,h.lo_⟩
theorem CV.ne(h:CV N lo w g vs vp vo ve kb ob se pu ou en kn f m):(g≠kb∧g≠ob∧vs.ownBlock≠some g∧vp.ownBlock≠some g∧vo.ownBlock≠some g∧ve.ownBlock≠some g)∧(kb≠ob∧vs.ownBlock≠some kb∧vp.ownBlock≠some kb∧vo.ownBlock≠some kb∧ve.ownBlock≠some kb) ∧
  (vs.ownBlock≠some ob∧vp.ownBlock≠some ob∧vo.ownBlock≠some ob∧ve.ownBlock≠some ob)∧((∀ x,vs.ownBlock=some x→vp.ownBlock≠some x)∧(∀ x,vs.ownBlock=some x→vo.ownBlock≠some x)∧(∀ x,vs.ownBlock=some x→ve.ownBlock≠some x)) ∧
  ((∀ x,vp.ownBlock=some x→vo.ownBlock≠some x)∧(∀ x,vp.ownBlock=some x→ve.ownBlock≠some x))∧(∀ x,vo.ownBlock=some x→ve.ownBlock≠some x):=by
 have hd:=h.dis;unfold Dis at hd;simp only [List.pairwise_cons,List.mem_cons,List.not_mem_nil,or_false,forall_eq_or_imp,forall_eq,List.Pairwise.nil,and_true] at hd;obtain ⟨⟨a1,a2,a3,a4,a5,a6⟩,⟨b2,b3,b4,b5,b6⟩,⟨c3,c4,c5,c6⟩,⟨d4,d5,d6⟩,⟨e5,e6⟩,f6,_⟩:=hd;exact ⟨⟨fun e=>a1 g rfl (by rw [e]),fun e=>a2 g rfl (by rw [e]),a3 g rfl,a4 g rfl,a5 g rfl,a6 g rfl⟩,⟨fun e=>b2 kb rfl (by rw [e]),b3 kb rfl,b4 kb rfl,b5 kb rfl,b6 kb rfl⟩,⟨c3 ob rfl,c4 ob rfl,c5 ob rfl,c6 ob rfl⟩,⟨d4,d5,d6⟩,⟨e5,e6⟩,f6⟩
theorem CV.kn'{kn':Kn}(h:CV N lo w g vs vp vo ve kb ob se pu ou en kn f m)(hu:Upd (fun b=>b=kb) w w')(hk:MpK w' kb m' kn')(hm:m≤m'):CV N lo w' g vs vp vo ve kb ob se pu ou en kn' f m':=by
 obtain ⟨⟨a1,a2,a3,a4,a5,a6⟩,⟨b2,b3,b4,b5,b6⟩,c,d⟩:=h.ne;exact ⟨h.blk.upd hu a1,own_updV h.os hu fun b hb e=>b3 (by rw [hb,e]),own_updV h.op hu fun b hb e=>b4 (by rw [hb,e]),own_updV h.oo hu fun b hb e=>b5 (by rw [hb,e]),own_updV h.oe hu fun b hb e=>b6 (by rw [hb,e]),hk,
  (h.ms.upd hu (fun e=>b2 e.symm)).mono hm,h.dis,h.inN,h.lo_.1,h.lo_.2.1,h.lo_.2.2.1,Nat.le_trans h.lo_.2.2.2 hu.size⟩
theorem CV.ob'{f':Bs→Bool}(h:CV N lo w g vs vp vo ve kb ob se pu ou en kn f m)(hu:Upd (fun b=>b=ob) w w')(hk:MpS w' ob m' f')(hm:m≤m'):CV N lo w' g vs vp vo ve kb ob se pu ou en kn f' m':=by
 obtain ⟨⟨a1,a2,a3,a4,a5,a6⟩,⟨b2,b3,b4,b5,b6⟩,⟨c3,c4,c5,c6⟩,d⟩:=h.ne;exact ⟨h.blk.upd hu a2,own_updV h.os hu fun b hb e=>c3 (by rw [hb,e]),own_updV h.op hu fun b hb e=>c4 (by rw [hb,e]),own_updV h.oo hu fun b hb e=>c5 (by rw [hb,e]),own_updV h.oe hu fun b hb e=>c6 (by rw [hb,e]),(h.mp.upd hu b2).mono hm,
  hk,h.dis,h.inN,h.lo_.1,h.lo_.2.1,h.lo_.2.2.1,Nat.le_trans h.lo_.2.2.2 hu.size⟩
theorem dis_set{L:List (Option Nat)}{i:Nat}{o o':Option Nat}{n:Nat}(h:Dis L)(hi:L[i]?=some o)(ho:o'=o∨o'=some n)(hl:∀ x∈L,∀ b,x=some b→b < n):Dis (L.set i o'):=by
 unfold Dis at h ⊢;rw [List.pairwise_iff_getElem] at h ⊢;intro a b ha hb hab x hx hy;rw [List.length_set] at ha hb;rw [List.getElem_set] at hx hy;obtain ⟨hil,hio⟩:=List.getElem?_eq_some_iff.1 hi;by_cases e1:i=a
 ·rw [if_pos e1] at hx;rw [if_neg (by omega)] at hy;rcases ho with e | e
  ·refine h a b ha hb hab x ?_ hy;subst e1;rw [hio,←e];exact hx
  ·rw [e] at hx;cases hx;have:=hl _ (List.getElem_mem hb) _ hy;omega
 ·rw [if_neg e1] at hx;by_cases e2:i=b
  ·rw [if_pos e2] at hy;rcases ho with e | e
   ·refine h a b ha hb hab x hx ?_;subst e2;rw [hio,←e];exact hy
   ·rw [e] at hy;cases hy;have:=hl _ (List.getElem_mem ha) _ hx;omega
  ·rw [if_neg e2] at hy;exact h a b ha hb hab x hx hy
theorem far_own{w:World}{base:Nat}{e:TypeId}{size n g i:Nat}{v u:Value}{xs:List Value}(h:w.ownsRow base e size v n xs)(hg:v.ownBlock≠some g):(w.setCell ⟨g,i,none⟩ u).ownsRow base e size v n xs:=
 own_updV h ((Upd.refl (fun b=>b=g) w).setCell (p:=⟨g,i,none⟩) (fun _=>rfl) u) fun b hb e=>hg (by rw [hb,e])
theorem far_heap{w:World}{g i b:Nat}{u:Value}(h:b≠g):(w.setCell ⟨g,i,none⟩ u).heap[b]?=w.heap[b]?:=Below.heap_setCell w ⟨g,i,none⟩ u b h
theorem CV.vs'{se':List Bs}(h:CV N lo w g vs vp vo ve kb ob se pu ou en kn f m)(hu:Upd (fun b=>vs.ownBlock=some b) w w')(hown:w'.ownsRow lo 9 1 v' se'.length (se'.map strV))(ha:v'.ownBlock=vs.ownBlock∨∃ n,w.heap.size≤n∧v'.ownBlock=some n) :
  CV (fun b=>N b∨w.heap.size≤b) lo (w'.setCell ⟨g,0,none⟩ v') g v' vp vo ve kb ob se' pu ou en kn f m:=by
 obtain ⟨⟨a1,a2,a3,a4,a5,a6⟩,⟨b2,b3,b4,b5,b6⟩,⟨c3,c4,c5,c6⟩,⟨d4,d5,d6⟩,⟨e5,e6⟩,f6⟩:=h.ne;have hg':v'.ownBlock≠some g:=fun e=>by
  rcases ha with ha | ⟨n,hn,ha⟩
  ·rw [ha] at e;exact a3 e
  ·rw [ha] at e;cases e;have:=h.blk.lt;omega
 have hsz:w.heap.size≤(w'.setCell ⟨g,0,none⟩ v').heap.size:=Nat.le_trans hu.size (Upd.setCell (Upd.refl (fun b=>b=g) w') (p:=⟨g,0,none⟩) (fun _=>rfl) v').size;refine ⟨(h.blk.upd hu a3).set 0 v',far_own hown hg',far_own (own_updV h.op hu (fun b hb e=>d4 b e hb)) a4,far_own (own_updV h.oo hu (fun b hb e=>d5 b e hb)) a5,far_own (own_updV h.oe hu (fun b hb e=>d6 b e hb)) a6,(h.mp.upd hu b3).heap (far_heap (Ne.symm a1)),(h.ms.upd hu c3).heap (far_heap (Ne.symm a2)),?_,?_,h.lo_.1,h.lo_.2.1,h.lo_.2.2.1,Nat.le_trans h.lo_.2.2.2 hsz⟩
 ·have hl:=fun x hx b hb=>(h.lts x hx b hb).1
  rcases ha with ha | ⟨n,hn,ha⟩
  ·exact dis_set (i:=3) (n:=w.heap.size) h.dis rfl (.inl ha) hl
  ·exact dis_set (i:=3) (n:=n) h.dis rfl (.inr ha) fun x hx b hb=>Nat.lt_of_lt_of_le (hl x hx b hb) hn
 ·intro x hx b hb;have hN:=h.inN;simp only [List.mem_cons,List.not_mem_nil,or_false,forall_eq_or_imp,forall_eq] at hN hx;obtain ⟨n0,n1,n2,n3,n4,n5,n6⟩:=hN;have hv:∀ b,v'.ownBlock=some b→N b∨w.heap.size≤b:=fun b hb=>by
   rcases ha with ha | ⟨n,hn,ha⟩
   ·rw [ha] at hb;exact .inl (n3 b hb)
   ·rw [ha] at hb;cases hb;exact .inr hn
  rcases hx with e | e | e | e | e | e | e
  ·rw [e] at hb;exact .inl (n0 b hb)
  ·rw [e] at hb;exact .inl (n1 b hb)
  ·rw [e] at hb;exact .inl (n2 b hb)
  ·rw [e] at hb;exact hv b hb
  ·rw [e] at hb;exact .inl (n4 b hb)
  ·rw [e] at hb;exact .inl (n5 b hb)
  ·rw [e] at hb;exact .inl (n6 b hb)
theorem CV.vp'{pu':List Bs}(h:CV N lo w g vs vp vo ve kb ob se pu ou en kn f m)(hu:Upd (fun b=>vp.ownBlock=some b) w w')(hown:w'.ownsRow lo 9 1 v' pu'.length (pu'.map strV))(ha:v'.ownBlock=vp.ownBlock∨∃ n,w.heap.size≤n∧v'.ownBlock=some n) :
  CV (fun b=>N b∨w.heap.size≤b) lo (w'.setCell ⟨g,1,none⟩ v') g vs v' vo ve kb ob se pu' ou en kn f m:=by
 obtain ⟨⟨a1,a2,a3,a4,a5,a6⟩,⟨b2,b3,b4,b5,b6⟩,⟨c3,c4,c5,c6⟩,⟨d4,d5,d6⟩,⟨e5,e6⟩,f6⟩:=h.ne;have hg':v'.ownBlock≠some g:=fun e=>by
  rcases ha with ha | ⟨n,hn,ha⟩
  ·rw [ha] at e;exact a4 e
  ·rw [ha] at e;cases e;have:=h.blk.lt;omega
 have hsz:w.heap.size≤(w'.setCell ⟨g,1,none⟩ v').heap.size:=Nat.le_trans hu.size (Upd.setCell (Upd.refl (fun b=>b=g) w') (p:=⟨g,1,none⟩) (fun _=>rfl) v').size;refine ⟨(h.blk.upd hu a4).set 1 v',far_own (own_updV h.os hu (fun b hb e=>d4 b hb e)) a3,far_own hown hg',far_own (own_updV h.oo hu (fun b hb e=>e5 b e hb)) a5,far_own (own_updV h.oe hu (fun b hb e=>e6 b e hb)) a6,(h.mp.upd hu b4).heap (far_heap (Ne.symm a1)),(h.ms.upd hu c4).heap (far_heap (Ne.symm a2)),?_,?_,h.lo_.1,h.lo_.2.1,h.lo_.2.2.1,Nat.le_trans h.lo_.2.2.2 hsz⟩
 ·have hl:=fun x hx b hb=>(h.lts x hx b hb).1
  rcases ha with ha | ⟨n,hn,ha⟩
  ·exact dis_set (i:=4) (n:=w.heap.size) h.dis rfl (.inl ha) hl
  ·exact dis_set (i:=4) (n:=n) h.dis rfl (.inr ha) fun x hx b hb=>Nat.lt_of_lt_of_le (hl x hx b hb) hn
 ·intro x hx b hb;have hN:=h.inN;simp only [List.mem_cons,List.not_mem_nil,or_false,forall_eq_or_imp,forall_eq] at hN hx;obtain ⟨n0,n1,n2,n3,n4,n5,n6⟩:=hN;have hv:∀ b,v'.ownBlock=some b→N b∨w.heap.size≤b:=fun b hb=>by
   rcases ha with ha | ⟨n,hn,ha⟩
   ·rw [ha] at hb;exact .inl (n4 b hb)
   ·rw [ha] at hb;cases hb;exact .inr hn
  rcases hx with e | e | e | e | e | e | e
  ·rw [e] at hb;exact .inl (n0 b hb)
  ·rw [e] at hb;exact .inl (n1 b hb)
  ·rw [e] at hb;exact .inl (n2 b hb)
  ·rw [e] at hb;exact .inl (n3 b hb)
  ·rw [e] at hb;exact hv b hb
  ·rw [e] at hb;exact .inl (n5 b hb)
  ·rw [e] at hb;exact .inl (n6 b hb)
theorem CV.vo'{ou':List (Bs×Bool)}(h:CV N lo w g vs vp vo ve kb ob se pu ou en kn f m)(hu:Upd (fun b=>vo.ownBlock=some b) w w')(hown:w'.ownsRow lo 158 3 v' ou'.length (ou'.flatMap laC))(ha:v'.ownBlock=vo.ownBlock∨∃ n,w.heap.size≤n∧v'.ownBlock=some n) :
  CV (fun b=>N b∨w.heap.size≤b) lo (w'.setCell ⟨g,2,none⟩ v') g vs vp v' ve kb ob se pu ou' en kn f m:=by
 obtain ⟨⟨a1,a2,a3,a4,a5,a6⟩,⟨b2,b3,b4,b5,b6⟩,⟨c3,c4,c5,c6⟩,⟨d4,d5,d6⟩,⟨e5,e6⟩,f6⟩:=h.ne;have hg':v'.ownBlock≠some g:=fun e=>by
  rcases ha with ha | ⟨n,hn,ha⟩
  ·rw [ha] at e;exact a5 e
  ·rw [ha] at e;cases e;have:=h.blk.lt;omega
 have hsz:w.heap.size≤(w'.setCell ⟨g,2,none⟩ v').heap.size:=Nat.le_trans hu.size (Upd.setCell (Upd.refl (fun b=>b=g) w') (p:=⟨g,2,none⟩) (fun _=>rfl) v').size;refine ⟨(h.blk.upd hu a5).set 2 v',far_own (own_updV h.os hu (fun b hb e=>d5 b hb e)) a3,far_own (own_updV h.op hu (fun b hb e=>e5 b hb e)) a4,far_own hown hg',far_own (own_updV h.oe hu (fun b hb e=>f6 b e hb)) a6,(h.mp.upd hu b5).heap (far_heap (Ne.symm a1)),(h.ms.upd hu c5).heap (far_heap (Ne.symm a2)),?_,?_,h.lo_.1,h.lo_.2.1,h.lo_.2.2.1,Nat.le_trans h.lo_.2.2.2 hsz⟩
 ·have hl:=fun x hx b hb=>(h.lts x hx b hb).1
  rcases ha with ha | ⟨n,hn,ha⟩
  ·exact dis_set (i:=5) (n:=w.heap.size) h.dis rfl (.inl ha) hl
  ·exact dis_set (i:=5) (n:=n) h.dis rfl (.inr ha) fun x hx b hb=>Nat.lt_of_lt_of_le (hl x hx b hb) hn
 ·intro x hx b hb;have hN:=h.inN;simp only [List.mem_cons,List.not_mem_nil,or_false,forall_eq_or_imp,forall_eq] at hN hx;obtain ⟨n0,n1,n2,n3,n4,n5,n6⟩:=hN;have hv:∀ b,v'.ownBlock=some b→N b∨w.heap.size≤b:=fun b hb=>by
   rcases ha with ha | ⟨n,hn,ha⟩
   ·rw [ha] at hb;exact .inl (n5 b hb)
   ·rw [ha] at hb;cases hb;exact .inr hn
  rcases hx with e | e | e | e | e | e | e
  ·rw [e] at hb;exact .inl (n0 b hb)
  ·rw [e] at hb;exact .inl (n1 b hb)
  ·rw [e] at hb;exact .inl (n2 b hb)
  ·rw [e] at hb;exact .inl (n3 b hb)
  ·rw [e] at hb;exact .inl (n4 b hb)
  ·rw [e] at hb;exact hv b hb
  ·rw [e] at hb;exact .inl (n6 b hb)
theorem CV.ve'{en':List Bs}(h:CV N lo w g vs vp vo ve kb ob se pu ou en kn f m)(hu:Upd (fun b=>ve.ownBlock=some b) w w')(hown:w'.ownsRow lo 9 1 v' en'.length (en'.map strV))(ha:v'.ownBlock=ve.ownBlock∨∃ n,w.heap.size≤n∧v'.ownBlock=some n) :
  CV (fun b=>N b∨w.heap.size≤b) lo (w'.setCell ⟨g,5,none⟩ v') g vs vp vo v' kb ob se pu ou en' kn f m:=by
 obtain ⟨⟨a1,a2,a3,a4,a5,a6⟩,⟨b2,b3,b4,b5,b6⟩,⟨c3,c4,c5,c6⟩,⟨d4,d5,d6⟩,⟨e5,e6⟩,f6⟩:=h.ne;have hg':v'.ownBlock≠some g:=fun e=>by
  rcases ha with ha | ⟨n,hn,ha⟩
  ·rw [ha] at e;exact a6 e
  ·rw [ha] at e;cases e;have:=h.blk.lt;omega
 have hsz:w.heap.size≤(w'.setCell ⟨g,5,none⟩ v').heap.size:=Nat.le_trans hu.size (Upd.setCell (Upd.refl (fun b=>b=g) w') (p:=⟨g,5,none⟩) (fun _=>rfl) v').size;refine ⟨(h.blk.upd hu a6).set 5 v',far_own (own_updV h.os hu (fun b hb e=>d6 b hb e)) a3,far_own (own_updV h.op hu (fun b hb e=>e6 b hb e)) a4,far_own (own_updV h.oo hu (fun b hb e=>f6 b hb e)) a5,far_own hown hg',(h.mp.upd hu b6).heap (far_heap (Ne.symm a1)),(h.ms.upd hu c6).heap (far_heap (Ne.symm a2)),?_,?_,h.lo_.1,h.lo_.2.1,h.lo_.2.2.1,Nat.le_trans h.lo_.2.2.2 hsz⟩
 ·have hl:=fun x hx b hb=>(h.lts x hx b hb).1
  rcases ha with ha | ⟨n,hn,ha⟩
  ·exact dis_set (i:=6) (n:=w.heap.size) h.dis rfl (.inl ha) hl
  ·exact dis_set (i:=6) (n:=n) h.dis rfl (.inr ha) fun x hx b hb=>Nat.lt_of_lt_of_le (hl x hx b hb) hn
 ·intro x hx b hb;have hN:=h.inN;simp only [List.mem_cons,List.not_mem_nil,or_false,forall_eq_or_imp,forall_eq] at hN hx;obtain ⟨n0,n1,n2,n3,n4,n5,n6⟩:=hN;have hv:∀ b,v'.ownBlock=some b→N b∨w.heap.size≤b:=fun b hb=>by
   rcases ha with ha | ⟨n,hn,ha⟩
   ·rw [ha] at hb;exact .inl (n6 b hb)
   ·rw [ha] at hb;cases hb;exact .inr hn
  rcases hx with e | e | e | e | e | e | e
  ·rw [e] at hb;exact .inl (n0 b hb)
  ·rw [e] at hb;exact .inl (n1 b hb)
  ·rw [e] at hb;exact .inl (n2 b hb)
  ·rw [e] at hb;exact .inl (n3 b hb)
  ·rw [e] at hb;exact .inl (n4 b hb)
  ·rw [e] at hb;exact .inl (n5 b hb)
  ·rw [e] at hb;exact hv b hb
end
def natV(n:Nat):Value:=.int .i64 (n:Int)
theorem index_(A:Option Addr)(c:Nat)(l:List Nat)(a:Nat)(w:World)(hA:Lies w A (l.map natV))(hl:l.length≤100) :
  Calls Tryz.prog 174 #[.slice A l.length c,.int .i64 (a:Int)] w fun e w'=>∃ r:Int,e = .returned (.int .i64 r)∧l.contains a=decide (0≤r)∧Below w.heap.size w w':=by
 have HA:=Hi hA;clear hA;go_enter Tryz.func174,Tryz.ntmps174;go_wp2_with fail
 go_loopw [8] (fun vi wr=>∃ i:Nat,i≤l.length∧vi = .int .i64 (i:Int)∧Hid (Below w.heap.size w wr)∧Hid (∀ j,j < i→l[j]?≠some a)) (fun vi _=>l.length - (intOf vi).toNat)
 case atStart=>exact ⟨0,by omega,rfl,Hi (Below.refl _ _),Hi fun j hj=>absurd hj (by omega)⟩
 case round=>
  obtain ⟨i,hi,rfl,HH,HQ⟩:=hrel;by_cases hlt:i < l.length
  ·obtain ⟨p,hp⟩:∃ p,l[i]?=some p:=⟨_,List.getElem?_eq_getElem hlt⟩;have f1:(l.map natV)[i]?=some (.int .i64 (p:Int)):=by rw [List.getElem?_map,hp];rfl
   obtain ⟨b,o,rfl,_,hc1⟩:=(HA.out.below HH.out).at_ f1;have e1:=hc1 _ _ f1;by_cases hpa:a=p
   ·subst hpa;have HR:=Hi (show l.contains a=true from List.contains_iff_mem.2 (List.mem_of_getElem? hp));clear hc1 f1 hp;go_wp2_with fail
    go_ret;exact ⟨_,rfl,by rw [HR.out];simp,HH.out⟩
   ·have HN:=Hi (show ∀ j,j < i+1→l[j]?≠some a from fun j hj=>by
     by_cases h:j < i
     ·exact HQ.out j h
     ·obtain rfl:j=i:=by omega
      rw [hp];simp;omega)
    have hne:((a:Int)==(p:Int))=false:=by simp;omega
    clear hc1 f1 hp hpa;go_wp2_with fail
    go_roundw
    case rel=>exact ⟨i+1,by omega,by go_num,HH,HN⟩
    case measure=>simp [intOf];omega
  ·have hr:l.contains a=false:=by
    cases h:l.contains a with
    | false=>rfl
    | true=>
     obtain ⟨j,hj⟩:=List.getElem?_of_mem (List.contains_iff_mem.1 h);have hjl:=(List.getElem?_eq_some_iff.1 hj).1;exact absurd hj (HQ.out j (by omega))
   have HR:=Hi hr;clear hr;go_wp2_with fail
   go_ret;exact ⟨_,rfl,by rw [HR.out];simp,HH.out⟩
theorem contains_(A:Option Addr)(c:Nat)(l:List Nat)(a:Nat)(w:World)(hA:Lies w A (l.map natV))(hl:l.length≤100) :
  Calls Tryz.prog 161 #[.slice A l.length c,.int .i64 (a:Int)] w fun e w'=>e = .returned (.bool (l.contains a))∧Below w.heap.size w w':=by
 have HI:=Hi (index_ A c l a w hA hl);clear hA;generalize l.contains a=res at HI ⊢;go_enter Tryz.func161,Tryz.ntmps161;go_wp2_with fail
 refine HI.out.mono ?_;rintro e w1 ⟨r,rfl,hr,hb⟩;subst hr;have HB:=Hi hb;clear hb;go_wp2_with fail
 go_ret;exact ⟨rfl,HB.out⟩
def TellP(w:World)(r:Bool)(e:Ending)(w':World):Prop:=e = .returned (.bool r)∧Below w.heap.size w w'
def KnP(w:World)(g:Nat)(kn:Kn):Prop:=∃ kb m,w.cell? ⟨g,3,none⟩=some (.map (some kb))∧MpK w kb m kn
theorem KnP.below{w w':World}{g:Nat}{kn:Kn}(h:KnP w g kn)(hb:Below w.heap.size w w'):KnP w' g kn:=by
 obtain ⟨kb,m,h1,h2⟩:=h;exact ⟨kb,m,(hb.cell (World.block_lt_of_cell? w _ h1)).trans h1,h2.upd (Upd.of_below hb fun _=>False) id⟩
theorem is_(w:World)(g:Nat)(kn:Kn)(hk:KnP w g kn)(s:Bs)(hs:s.length≤maxLen)(A:Option Addr)(c:Nat)(l:List Nat)(hA:Lies w A (l.map natV))(hl:l.length≤100) :
  Calls Tryz.prog 140 #[.pointer (some ⟨g,0,none⟩),.string ⟨s.toArray⟩,.slice A l.length c] w (TellP w (isB kn s l)):=by
 obtain ⟨kb,m,h3,hm⟩:=hk;have hrun:=hm.look (s:=s) hs;have hg:g < w.heap.size:=World.block_lt_of_cell? w _ h3;obtain ⟨w1,hw1⟩:∃ w1,w.alloc (.cells #[.int .i64 ((kAt kn s).1:Int),.int .i64 ((kAt kn s).2:Int)] 107)=w1:=⟨_,rfl⟩;have hb1:Below w.heap.size w w1:=by rw [←hw1];exact (Below.refl _ _).alloc (Nat.le_refl _) _
 have hX1:Blk w1 w.heap.size 107 #[.int .i64 ((kAt kn s).1:Int),.int .i64 ((kAt kn s).2:Int)]:=by rw [←hw1];exact Blk.new _ _ _
 have HC:=Hi (contains_ A c l (kAt kn s).1 w1 (hA.below hb1) hl);have HB1:=Hi hb1;have HX1:=Hi hX1;have HW1:=Hi hw1;have hres:isB kn s l=((kn s).isSome && l.contains (kAt kn s).1):=by
  unfold isB kAt;cases kn s <;> rfl
 rw [hres];clear hA hm hw1 hb1 hX1 hres;generalize (kn s).isSome=isS at *;generalize kAt kn s=ka at *;generalize l.contains ka.1=res at *;go_enter Tryz.func140,Tryz.ntmps140;cases isS with
 | false=>
  go_wp2_with fail
  go_ret;rw [HW1.out];exact ⟨rfl,HB1.out⟩
 | true=>
  have e0:=HX1.out.cell 0;go_wp2_with fail
  rw [HW1.out];refine HC.out.mono ?_;rintro e w2 ⟨rfl,hb2⟩;have HB2:=Hi (HB1.out.trans (hb2.mono HB1.out.size));clear hb2;go_wp2_with fail
  go_ret;exact ⟨rfl,HB2.out⟩
section
theorem sorts_box(w:World)(l:List Nat):∃ w1,w.alloc (.cells (l.map natV).toArray 105)=w1∧Below w.heap.size w w1∧Lies w1 (some ⟨w.heap.size,0,none⟩) (l.map natV):=
 ⟨_,rfl,(Below.refl _ _).alloc (Nat.le_refl _) _,lies_full _ _ _⟩
theorem TellP.trans{w w1 w':World}{r:Bool}{e:Ending}(hb:Below w.heap.size w w1)(h:TellP w1 r e w'):TellP w r e w':=⟨h.1,hb.trans (h.2.mono hb.size)⟩
theorem is_all{kn:Kn}(h:Sorts kn)(s:Bs):isB kn s [0,1,2,3]=namedB kn s:=by
 unfold isB namedB;cases hk:kn s with
 | none=>rfl
 | some m=>
  have:=h s m hk;simp;omega
theorem is_word{kn:Kn}(h:Sorts kn)(s:Bs):isB kn s [0,2,3]=wordB kn s:=by
 unfold isB wordB;cases hk:kn s with
 | none=>rfl
 | some m=>
  have:=h s m hk;have h2:(m.1 = 0∨m.1 = 2∨m.1 = 3)↔¬ m.1 = 1:=by omega
  simp [h2]
theorem KnP.sorts{w:World}{g:Nat}{kn:Kn}(h:KnP w g kn):Sorts kn:=fun s m hm=>by
 obtain ⟨_,_,_,hp⟩:=h;exact (hp.sorts s m hm).1
theorem isNamed(w:World)(g:Nat)(kn:Kn)(hk:KnP w g kn)(s:Bs)(hs:s.length≤maxLen) :
  Calls Tryz.prog 138 #[.pointer (some ⟨g,0,none⟩),.string ⟨s.toArray⟩] w (TellP w (namedB kn s)):=by
 obtain ⟨w1,hw1,hb1,hL1⟩:=sorts_box w [0,1,2,3];have HC:=Hi (is_ w1 g kn (hk.below hb1) s hs _ 4 [0,1,2,3] hL1 (by decide));rw [is_all hk.sorts] at HC;have HB1:=Hi hb1;have HW1:=Hi hw1;clear hk hb1 hL1 hw1;generalize namedB kn s=res at *;go_enter Tryz.func138,Tryz.ntmps138;go_wp2_with fail
 rw [show w.alloc (.cells #[.int .i64 0,.int .i64 1,.int .i64 2,.int .i64 3] 105)=w1 from HW1.out];refine (show Calls Tryz.prog 140 #[.pointer (some ⟨g,0,none⟩),.string ⟨s.toArray⟩,.slice (some ⟨w.heap.size,0,none⟩) 4 4] w1 _ from HC.out).mono ?_;rintro e w2 ⟨rfl,hb2⟩;have HB2:=Hi (HB1.out.trans (hb2.mono HB1.out.size));clear hb2;go_wp2_with fail
 go_ret;exact ⟨rfl,HB2.out⟩
theorem isWord(w:World)(g:Nat)(kn:Kn)(hk:KnP w g kn)(s:Bs)(hs:s.length≤maxLen) :
  Calls Tryz.prog 145 #[.pointer (some ⟨g,0,none⟩),.string ⟨s.toArray⟩] w (TellP w (wordB kn s)):=by
 obtain ⟨w1,hw1,hb1,hL1⟩:=sorts_box w [0,2,3];have HC:=Hi (is_ w1 g kn (hk.below hb1) s hs _ 3 [0,2,3] hL1 (by decide));rw [is_word hk.sorts] at HC;have HB1:=Hi hb1;have HW1:=Hi hw1;clear hk hb1 hL1 hw1;generalize wordB kn s=res at *;go_enter Tryz.func145,Tryz.ntmps145;go_wp2_with fail
 rw [show w.alloc (.cells #[.int .i64 0,.int .i64 2,.int .i64 3] 105)=w1 from HW1.out];refine (show Calls Tryz.prog 140 #[.pointer (some ⟨g,0,none⟩),.string ⟨s.toArray⟩,.slice (some ⟨w.heap.size,0,none⟩) 3 3] w1 _ from HC.out).mono ?_;rintro e w2 ⟨rfl,hb2⟩;have HB2:=Hi (HB1.out.trans (hb2.mono HB1.out.size));clear hb2;go_wp2_with fail
 go_ret;exact ⟨rfl,HB2.out⟩
theorem fMn1(a p:Int)(w:World):(Instr.field 107 (.agg #[.int .i64 a,.int .i64 p]) 1).run Tryz.prog w = .ok (.int .i64 p) w:=by kernel_rfl
attribute [local go_sem] fMn1
theorem call_is(kn:Kn)(s:Bs)(p:Nat):callB kn s p=(isB kn s [1] && decide ((kAt kn s).2=p)):=by
 unfold callB isB kAt;cases kn s with
 | none=>rfl
 | some m=>simp
theorem isCalled(w:World)(g:Nat)(kn:Kn)(hk:KnP w g kn)(s:Bs)(hs:s.length≤maxLen)(p:Nat) :
  Calls Tryz.prog 164 #[.pointer (some ⟨g,0,none⟩),.string ⟨s.toArray⟩,.int .i64 (p:Int)] w (TellP w (callB kn s p)):=by
 obtain ⟨w1,hw1,hb1,hL1⟩:=sorts_box w [1];have HC:=Hi (is_ w1 g kn (hk.below hb1) s hs _ 1 [1] hL1 (by decide));have HK:=Hi (hk.below hb1);have HB1:=Hi hb1;have HW1:=Hi hw1;rw [call_is];clear hk hb1 hL1 hw1;generalize isB kn s [1]=res at *;go_enter Tryz.func164,Tryz.ntmps164;go_wp2_with fail
 rw [show w.alloc (.cells #[.int .i64 1] 105)=w1 from HW1.out];refine (show Calls Tryz.prog 140 #[.pointer (some ⟨g,0,none⟩),.string ⟨s.toArray⟩,.slice (some ⟨w.heap.size,0,none⟩) 1 1] w1 _ from HC.out).mono ?_;rintro e w2 ⟨rfl,hb2⟩;have HB2:=Hi (HB1.out.trans (hb2.mono HB1.out.size));obtain ⟨kb,m,h3,hm⟩:=HK.out.below hb2;clear hb2;cases res with
 | false=>
  clear h3 hm;go_wp2_with fail
  go_ret;exact ⟨rfl,HB2.out⟩
 | true=>
  have hrun:=hm.look1 (s:=s) hs;clear hm;generalize kAt kn s=ka at *;obtain ⟨r2,hr2⟩:∃ r2:Bool,decide (ka.2=p)=r2:=⟨_,rfl⟩;have hq:((ka.2:Int)==(p:Int))=r2:=by
   rw [←hr2];cases h:decide (ka.2=p) <;> simp at h ⊢ <;> omega
  have HR2:=Hi hr2;clear hr2;go_wp2_with fail
  go_ret;exact ⟨by rw [HR2.out];rfl,HB2.out⟩
theorem has_(w:World)(b n:Nat)(f:Bs→Bool)(h:MpS w b n f)(s:Bs)(hs:s.length≤maxLen) :
  Calls Tryz.prog 144 #[.map (some b),.string ⟨s.toArray⟩] w (TellP w (f s)):=by
 have hrun:=h.look (s:=s) hs;clear h;generalize f s=r at *;go_enter Tryz.func144,Tryz.ntmps144;go_wp2_with fail
 go_ret;exact ⟨rfl,(Below.refl _ _).alloc (Nat.le_refl _) _⟩
def AddP(w:World)(b n:Nat)(f:Bs→Bool)(s:Bs)(e:Ending)(w':World):Prop:=e = .returned (.bool (!f s))∧MpS w' b (n+1) (fun t=>f t || t==s)∧Upd (fun k=>k=b) w w'
theorem add_(w:World)(b n:Nat)(f:Bs→Bool)(h:MpS w b n f)(hn:n < maxLen)(s:Bs)(hs:s.length≤maxLen) :
  Calls Tryz.prog 141 #[.map (some b),.string ⟨s.toArray⟩] w (AddP w b n f s):=by
 have HS:=Hi (has_ w b n f h s hs);have HM:=Hi h;clear h;go_enter Tryz.func141,Tryz.ntmps141;go_wp2_with fail
 refine HS.out.mono ?_;rintro e w1 ⟨rfl,hb1⟩;obtain ⟨w2,hrun,h2,ht⟩:=(HM.out.upd (Upd.of_below hb1 fun _=>False) id).put (s:=s) hs hn;have H2:=Hi h2;have HU:=Hi ((Upd.of_below hb1 (fun k=>k=b)).trans (turned_upd (X:=fun k=>k=b) ht rfl));clear hb1 h2 ht;obtain ⟨r,hr⟩:∃ r,f s=r:=⟨_,rfl⟩;have HR:=Hi hr;rw [hr];clear hr;go_wp2_with fail
 go_ret;exact ⟨by rw [HR.out];rfl,H2.out,HU.out⟩
abbrev panW(a:Int):Ending:=.panicked [{ v:=.iface 139 (.agg #[.int .i64 a]),recovered:=false }]
def RefP(w:World)(a:Int)(b:Bool)(e:Ending)(w':World):Prop:=e=(if b=true then panW a else .returned (.tuple #[]))∧Below w.heap.size w w'
theorem refuse(w:World)(k a:Int)(s:Bs)(n:Nat)(A:Option Addr)(la cA:Nat)(B:Option Addr)(lb cB:Nat)(b:Bool) :
  Calls Tryz.prog 137 #[nzA k a s n A la cA B lb cB,.bool b] w (RefP w a b):=by
 obtain ⟨w1,hw1,hb1,hX1,_⟩:=a_box w (nB k a s n A la cA B lb cB);obtain ⟨⟨e0,e1,e2,e3,e4,e5⟩,z0,z1,z2,z3,z4,z5⟩:=Blk.c6 hX1;have HB1:=Hi hb1;have HW1:=Hi hw1;clear hw1 hb1 hX1;go_enter Tryz.func137,Tryz.ntmps137;cases b with
 | false=>
  go_wp2_with fail
  rw [HW1.out]
  first | go_end0 | skip
  all_goals first | exact ⟨rfl,HB1.out⟩ | exact bodyPost_ret (results_none rfl _ _ _) rfl ⟨rfl,HB1.out⟩
 | true=>
  go_wp2_with fail
  rw [HW1.out];exact ⟨rfl,rfl,HB1.out⟩
theorem lies_add{w:World}{A:Option Addr}{xs:List Value}(h:Lies w A xs)(m:Nat):Lies w (A.map fun a=>a.add m) (xs.drop m):=fun j u hj=>by
 rw [List.getElem?_drop] at hj;obtain ⟨a,rfl,hc⟩:=h _ u hj;exact ⟨_,rfl,by rw [add_add];exact hc⟩
theorem lies_0{w:World}{A:Option Addr}{xs:List Value}(h:Lies w A xs):Lies w (A.map fun a=>a.add 0) xs:=lies_add h 0
def CutP(w:World)(A:Option Addr)(n k:Nat)(e:Ending)(w':World):Prop:=∃ A1 c1 A2 c2,e = .returned (.tuple #[.slice A1 (min k n) c1,.slice A2 (n - k) c2])∧(∀ W xs,Lies W A xs→Lies W A1 xs)∧(0 < n - k→∀ W xs,Lies W A xs→Lies W A2 (xs.drop (k * 6)))∧Below w.heap.size w w'
theorem cut_(w:World)(A:Option Addr)(n c k:Nat)(hn:n≤c)(hc:c≤maxLen)(hk:k≤2) :
  Calls Tryz.prog 142 #[.slice A n c,.int .i64 (k:Int)] w (CutP w A n k):=by
 have hcm:c≤9223372036854775807:=hc;rcases Nat.lt_or_ge n k with hlt | hge
 ·have h1:(n:Int) < (k:Int):=by omega
  have h2:(0:Int)≤(n:Int):=by omega
  have h3:(n:Int)≤(c:Int):=by omega
  have hm:min k n=n:=by omega
  have hd:n - k = 0:=by omega
  go_enter Tryz.func142,Tryz.ntmps142;go_wp2_with fail
  go_region
  go_wp2_with fail
  all_goals (
   go_ret2
   unfold CutP;rw [hm,hd];exact ⟨_,_,_,_,rfl,fun _ _ h=>h,fun h=>absurd h (Nat.lt_irrefl _),Below.drew (Below.refl _ _)⟩)
 ·have h1:¬ (n:Int) < (k:Int):=by omega
  have h2:(0:Int)≤(k:Int):=by omega
  have h3:(k:Int)≤(c:Int):=by omega
  have h4:(k:Int)≤(n:Int):=by omega
  have hm:min k n=k:=by omega
  go_enter Tryz.func142,Tryz.ntmps142;go_wp2_with fail
  go_region
  go_wp2_with fail
  all_goals (
   go_ret2
   unfold CutP;rw [hm];refine ⟨_,_,_,_,rfl,fun _ _ h=>?_,fun hd W xs hL=>?_,Below.drew (Below.refl _ _)⟩
   ·first | exact h | exact lies_0 h | (split <;> first | exact h | exact lies_0 h)
   ·first | exact lies_add hL (k * 6) | (exfalso;omega))
end
end Go.Proofs.YtdhoemlomojfaaaGreatDoor.Nm
