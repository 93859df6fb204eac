/- DERIVED. NmEa, HeldTail, Squash, NmEx, NmIn. By an AI agent. -/
import Derived.Test.YtcgibpdjfgjldaaGreatDoorR05
import Derived.Deep.RegionHeld
set_option maxRecDepth 100000
set_option maxHeartbeats 4000000
set_option linter.unusedVariables false
set_option linter.unusedSimpArgs false
namespace Go.Proofs.YtcgibpdjfgjldaaGreatDoor
namespace Nm
open Go Go.ChangeShapes Go.WideShapes Go.ChangeAt Go.RowKit Lx Args Pa Sh
mutual
def lenz:Tz->Prop
 | .mk _ _ s _ ps l=>s.length<=maxLen/\(∀ p∈ps,p.length<=maxLen)/\aY l
def aY:List Tz->Prop
 | []=>True
 | x :: l=>lenz x/\aY l
end
theorem q1W:∀ {l:List Tz},aY l->∀ {i:Nat} {x:Tz},l[i]?=some x->lenz x
 | [],_,i,x,h=>Vc
 | y :: l,h,0,x,hx=>by
  have:y=x:=Vo;subst this;unfold aY at h;exact h.1
 | y :: l,h,i+1,x,hx=>by
  unfold aY at h;exact q1W h.2 Vo
theorem q0G{k a:Int}{s:Bs}{n:Nat}{ps:List Bs}{l:List Tz}(h:lenz (.mk k a s n ps l)):s.length<=maxLen/\(∀ p∈ps,p.length<=maxLen)/\aY l:=by unfold lenz at h;exact h
mutual
def foldT{σ:Type}(f:Tz->σ->Int ⊕ σ):Tz->σ->Int ⊕ σ
 | .mk k a s n ps l,st=>match f (.mk k a s n ps l) st with | .inl a=>.inl a | .inr st=>cZ f l st
def cZ{σ:Type}(f:Tz->σ->Int ⊕ σ):List Tz->σ->Int ⊕ σ
 | [],st=>.inr st
 | x :: l,st=>match foldT f x st with | .inl a=>.inl a | .inr st=>cZ f l st
end
theorem q4Z{σ:Type}(f:Tz->σ->Int ⊕ σ)(k a:Int)(s:Bs)(n:Nat)(ps:List Bs)(l:List Tz)(st:σ):foldT f (.mk k a s n ps l) st=match f (.mk k a s n ps l) st with | .inl a=>.inl a | .inr st=>cZ f l st:=by conv=>lhs;unfold foldT
def VisP{σ:Type}(J:(Nat->Prop)->World->σ->Prop)(N:Nat->Prop)(w:World)(r:Int ⊕ σ)(e:Ending)(w':World):Prop:=
 match r with | .inr st=>e = .returned (.tuple #[])/\J (New N w) w' st/\Upd N w w' | .inl a=>e=panW a/\Upd N w w'
structure Vis{σ:Type}(w0:World)(F:FuncId)(pv qv:Value)(f:Tz->σ->Int ⊕ σ)(J:(Nat->Prop)->World->σ->Prop)(cost:σ->Nat)(lim:Nat):Prop where
 step:∀ z st st',f z st = .inr st'->cost st'<=cost st+1
 enter:∀ (a:Value) (w:World),(callFunc F #[a,pv,qv]).run Tryz.prog w = .ok (.enter F #[a,pv,qv]) w
 mono:∀ N N' w st,J N w st->(∀ b,N b->b < w.heap.size->N' b)->J N' w st
 below:∀ N w w' st,J N w st->Below w.heap.size w w'->J N w' st
 call:∀ N w st z k a s n A la cA B lb cB,Below w0.heap.size w0 w->TIz w0 z (nzC k a s n A la cA B lb cB)->lenz z->cost st+1<=lim->J N w st->Calls Tryz.prog F #[aO k a s n A la cA B lb cB,pv,qv] w (VisP J N w (f z st))
mutual
theorem q3W{σ:Type}{f:Tz->σ->Int ⊕ σ}{cost:σ->Nat}(hf:∀ z st st',f z st = .inr st'->cost st'<=cost st+1):∀ (z:Tz) (st st':σ),foldT f z st = .inr st'->cost st'<=cost st+cntz z
 | .mk k a s n ps l,st,st',h=>by
  rw [q4Z] at h;unfold cntz;cases h1:f (.mk k a s n ps l) st with
  | inl a=>rw [h1] at h;cases h
  | inr s1=>
   rw [h1] at h;have h2:=hf _ _ _ h1;have h3:=q34 hf l s1 st' h;omega
theorem q34{σ:Type}{f:Tz->σ->Int ⊕ σ}{cost:σ->Nat}(hf:∀ z st st',f z st = .inr st'->cost st'<=cost st+1):∀ (l:List Tz) (st st':σ),cZ f l st = .inr st'->cost st'<=cost st+cnts l
 | [],st,st',h=>by
  unfold cZ at h;cases h;exact Nat.le_add_right _ _
 | x :: l,st,st',h=>by
  unfold cZ at h;unfold cnts;cases h1:foldT f x st with
  | inl a=>rw [h1] at h;cases h
  | inr s1=>
   rw [h1] at h;have h2:=q3W hf x st s1 h1;have h3:=q34 hf l s1 st' h;omega
end
theorem q2E{σ:Type}(f:Tz->σ->Int ⊕ σ)(x:Tz)(l:List Tz)(st:σ):cZ f (x :: l) st=match foldT f x st with | .inl a=>.inl a | .inr st=>cZ f l st:=by conv=>lhs;unfold cZ
theorem drop_at{α:Type}{l:List α}{i:Nat}{x:α}(h:l[i]?=some x):l.drop i=x :: l.drop (i+1):=by
 have hlt:i < l.length:=(List.getElem?_eq_some_iff.1 h).1;rw [List.drop_eq_getElem_cons hlt]
 congr 1
 rw [List.getElem?_eq_getElem hlt] at h;exact Option.some.inj h
theorem q0T{q:Prop}{w0 w:World}(hb:Below w0.heap.size w0 w){l:List Tz}{css:List (List Value)}{A:Option Addr}(hL:Af w0 A css.flatten)(hT:Am q w0 l css){i:Nat}{y:Tz}(h:l[i]?=some y) :
  ∃ b o k a s n A' la cA B lb cB,A=some ⟨b,o,none⟩/\TIc q w0 y (nzC k a s n A' la cA B lb cB)/\b < w0.heap.size/\w.cell? ⟨b,o+i * 6,none⟩=some (.int .i64 k)/\w.cell? ⟨b,o+i * 6+1,none⟩=some (.string ⟨s.toArray⟩) /\
   w.cell? ⟨b,o+i * 6+2,none⟩=some (.int .u32 (n:Int))/\w.cell? ⟨b,o+i * 6+3,none⟩=some (.int .i64 a)/\w.cell? ⟨b,o+i * 6+4,none⟩=some (.slice A' la cA)/\w.cell? ⟨b,o+i * 6+5,none⟩=some (.slice B lb cB):=by
 obtain ⟨b,o,k,a,s,n,A',la,cA,B,lb,cB,h1,h2,h3,e0,e1,e2,e3,e4,e5⟩:=q7m hL hT h;exact ⟨b,o,k,a,s,n,A',la,cA,B,lb,cB,h1,h2,h3,(hb.cell h3).trans e0,(hb.cell h3).trans e1,(hb.cell h3).trans e2,(hb.cell h3).trans e3,(hb.cell h3).trans e4,(hb.cell h3).trans e5⟩
theorem each{σ:Type}{w0:World}{F:FuncId}{pv qv:Value}{f:Tz->σ->Int ⊕ σ}{J:(Nat->Prop)->World->σ->Prop}{cost:σ->Nat}{lim:Nat}(V:Vis w0 F pv qv f J cost lim):∀ (m:Nat) (z:Tz),SizeOf.sizeOf z < m->∀ (N:Nat->Prop) (w:World) (st:σ) (k a:Int) (s:Bs) (n:Nat) (A:Option Addr) (la cA:Nat) (B:Option Addr) (lb cB:Nat),
  Below w0.heap.size w0 w->TIz w0 z (nzC k a s n A la cA B lb cB)->lenz z->(∀ b,N b->w0.heap.size<=b)->cost st+cntz z<=lim->J N w st ->
  Calls Tryz.prog 190 #[aO k a s n A la cA B lb cB,.func (.func F) #[] #[pv,qv]] w (VisP J N w (foldT f z st))
 | 0,z,h=>absurd h (Nat.not_lt_zero _)
 | m+1,.mk k1 a1 s1 n1 ps l,hm=>fun N w st k a s n A la cA B lb cB hb hT hlz hN hcst hJ=>by
  have hTT:=hT;obtain ⟨rfl,rfl,rfl,rfl,rfl,rfl,hl,hp,hB,css,hL,hS⟩:=q0B hT;have hlm:l.length<=9223372036854775807:=hl;obtain ⟨wn,hwn,hbn,aK,hsn⟩:=dw w (nB k a s n A l.length cA B ps.length cB);have hJ1:J (fun b=>N b/\b < w.heap.size) wn st:=V.below _ _ _ _ (V.mono _ (fun b=>N b/\b < w.heap.size) _ _ hJ fun b h1 h2=>⟨h1,h2⟩) hbn;have hb1:=hb.trans (hbn.mono hb.size);have hC:=V.call _ wn st _ k a s n A l.length cA B ps.length cB hb1 hTT hlz (by unfold cntz at hcst;omega) hJ1;have hls:=(q0G hlz).2.2;obtain ⟨⟨e0,e1,e2,e3,e4,e5⟩,z0,z1,z2,z3,z4,z5⟩:=Aa.c6 aK;have hgl:=aK.lt;have HL:=Hi hL;have HS:=Hi hS;have HM:=Hi hm;have HLS:=Hi hls;have HNN:=Hi hN;have HW0:=Hi hb1;have IH:=Hi (each V m);have HC:=Hi hC;have HWN:=Hi hwn;have HBN:=Hi hbn;have HXN:=Hi aK;have HSN:=Hi hsn;have HV:=Hi V;have HCS:=Hi (fun st1 (h:f (.mk k a s n ps l) st = .inr st1)=>show cost st1+cnts l<=lim by have:=V.step _ _ _ h;unfold cntz at hcst;omega);have hen:=V.enter;have hfold:foldT f (.mk k a s n ps l) st=match f (.mk k a s n ps l) st with | .inl a=>.inl a | .inr st=>cZ f l st:=by conv=>lhs;unfold foldT
  rw [hfold];clear hfold hT hTT hB hL hS hm hp hlz hls hN hcst hJ hJ1 hb hb1 hC hwn hbn aK V hsn hl;generalize f (.mk k a s n ps l) st=r1 at HC HCS ⊢;go_enter Tryz.func190,Tryz.ntmps190;go_wp2_with fail
  rw [HWN.out];refine (show Calls Tryz.prog F #[aO k a s n A l.length cA B ps.length cB,pv,qv] wn _ from HC.out).mono ?_;intro e w1 h1;cases r1 with
  | inl a1=>
   obtain ⟨rfl,hu1⟩:=h1;have Ac:=Hi (show Upd N w w1 from (Upd.of_below HBN.out N).trans (hu1.fresh fun b hb _=>hb.1));clear hu1;go_wp2_with fail
   exact ⟨rfl,rfl,Ac.out⟩
  | inr st1=>
   obtain ⟨rfl,hj1,hu1⟩:=h1;have HC1:=Hi (HCS.out st1 rfl);have hX1:=HXN.out.upd hu1 (fun h=>Nat.lt_irrefl _ h.2);have AP:=Hi hX1;have Aj:=Hi (show Upd N w w1 from (Upd.of_below HBN.out N).trans (hu1.mono fun b hb=>hb.1));have HJ1:=Hi (HV.out.mono _ (fun b=>(N b/\b < w.heap.size)\/wn.heap.size<=b) _ _ hj1 fun b h1 _=>h1);have HB1:=Hi (HW0.out.trans ((hu1.below (B:=w0.heap.size) HW0.out.size fun b hb=>HNN.out b hb.1)));have hs1:=hu1.size;clear hu1 hj1 e0 e1 e2 e3 e4 e5 z0 z1 z2 z3 z4 z5;obtain ⟨⟨e0,e1,e2,e3,e4,e5⟩,z0,z1,z2,z3,z4,z5⟩:=Aa.c6 hX1;clear hX1;go_wp2_with fail
   go_loopw [12] (fun vi wr=>∃ (i:Nat) (sti:σ),i<=l.length/\vi = .int .i64 (i:Int)/\Hid (J (fun b=>(N b/\b < w.heap.size)\/wn.heap.size<=b) wr sti)/\Hid (Upd N w wr)/\Hid (Below w0.heap.size w0 wr)/\Hid (Aa wr w.heap.size 26 (nB k a s n A l.length cA B ps.length cB))/\Hid (cZ f (l.drop i) sti=cZ f l st1)/\Hid (wn.heap.size<=wr.heap.size)/\Hid (cost sti+cnts (l.drop i)<=lim)) (fun vi _=>l.length - (intOf vi).toNat)
   case atStart=>exact ⟨0,st1,V0,rfl,HJ1,Aj,HB1,AP,Hi rfl,Hi hs1,Hi HC1.out⟩
   case round=>
    obtain ⟨i,sti,hi,rfl,HJ,HU,HB,HX,HQ,HSZ,HCI⟩:=hrel;by_cases hlt:i < l.length
    ·have hil:(i:Int) < (l.length:Int):=by omega
     obtain ⟨y,hy⟩:∃ y,l[i]?=some y:=⟨_,List.getElem?_eq_getElem hlt⟩;obtain ⟨b,o,k',a',s',n',A',la',bu,B',lb',bA,rfl,hTy,hb,g0,g1,g2,g3,g4,g5⟩:=q0T HB.out HL.out HS.out hy;obtain ⟨wb,hwb,hbb,hXb,hsb⟩:=dw wr (nB k' a' s' n' A' la' bu B' lb' bA);have hsy:SizeOf.sizeOf y < m:=V3A;have hJb:=HV.out.below _ _ _ _ (HV.out.mono _ (fun b=>((N b/\b < w.heap.size)\/wn.heap.size<=b)/\b < wr.heap.size) _ _ HJ.out fun b h1 h2=>⟨h1,h2⟩) hbb;have hci:=HCI.out;rw [drop_at hy] at hci;unfold cnts at hci;have hC:=IH.out y hsy _ wb sti k' a' s' n' A' la' bu B' lb' bA (HB.out.trans (hbb.mono HB.out.size)) hTy (q1W HLS.out hy) (fun b hb=>by
      rcases hb.1 with h | h
      ·exact HNN.out b h.1
      ·exact Nat.le_trans HW0.out.size h) V0 hJb
     have HCY:=Hi (fun st2 (h:foldT f y sti = .inr st2)=>show cost st2+cnts (l.drop (i+1))<=lim by have:=q3W HV.out.step y sti st2 h;omega);have hq:=HQ.out;rw [drop_at hy,q2E] at hq;obtain ⟨⟨e0,e1,e2,e3,e4,e5⟩,z0,z1,z2,z3,z4,z5⟩:=Aa.c6 hXb;have HC:=Hi hC;have HWB:=Hi hwb;have Ay:=Hi hbb;have AL:=Hi hq;have hrl:=hXb.lt;have HXb:=Hi (HX.out.below hbb HX.out.lt);clear hC hwb hbb hXb hq hJb hTy hsy hy hci;generalize foldT f y sti=r2 at HC AL HCY;go_wp2_with fail
     rw [HWB.out];refine (show Calls Tryz.prog 190 #[aO k' a' s' n' A' la' bu B' lb' bA,.func (.func F) #[] #[pv,qv]] wb _ from HC.out).mono ?_;intro e w4 h4;cases r2 with
     | inl a2=>
      obtain ⟨rfl,aF⟩:=h4;have HQ3:=Hi AL.out.symm;have Ac:=Hi (dm (dm HU.out (Upd.of_below Ay.out fun _=>False) fun _ h=>h.elim) aF fun b hb hs=>by
       rcases hb.1 with h | h
       ·exact h.1
       ·have:=HSN.out;omega)
      clear aF;go_wp2_with fail
      exact ⟨rfl,by rw [HQ3.out];exact ⟨rfl,Ac.out⟩⟩
     | inr st2=>
      obtain ⟨rfl,hj4,aF⟩:=h4;have HJ4:=Hi (HV.out.mono _ (fun b=>(N b/\b < w.heap.size)\/wn.heap.size<=b) _ _ hj4 fun b h1 _=>by
       rcases h1 with h | h
       ·exact h.1
       ·exact .inr (by have:=HSZ.out;omega))
      have AO:=Hi (dm (dm HU.out (Upd.of_below Ay.out fun _=>False) fun _ h=>h.elim) aF fun b hb hs=>by
       rcases hb.1 with h | h
       ·exact h.1
       ·have:=HSN.out;omega)
      have HB4:=Hi ((HB.out.trans (Ay.out.mono HB.out.size)).trans (aF.below (B:=w0.heap.size) (Nat.le_trans HB.out.size Ay.out.size) fun b hb=>by
       rcases hb.1 with h | h
       ·exact HNN.out b h.1
       ·exact Nat.le_trans HW0.out.size h))
      have Ba:=Hi (HXb.out.upd aF fun hb=>by
       rcases hb.1 with h | h
       ·exact Nat.lt_irrefl _ h.2
       ·have:=HSN.out;omega)
      have HSZ4:=Hi (show wn.heap.size<=w4.heap.size by have:=aF.size;have:=HSZ.out;omega);clear hj4 aF;go_wp2_with fail
      go_roundw
      case rel=>exact ⟨i+1,st2,V0,V7,HJ4,AO,HB4,Ba,AL,HSZ4,Hi (HCY.out st2 rfl)⟩
      case measure=>simp [intOf];omega
    ·obtain rfl:i=l.length:=by omega
     have hq:=HQ.out;rw [List.drop_length] at hq
     conv at hq=>lhs;unfold cZ
     have AL:=Hi hq.symm;clear hq;have Ac:=Hi (show VisP J N w (.inr sti) (.returned (.tuple #[])) wr from ⟨rfl,HV.out.mono _ _ _ _ HJ.out fun b h1 _=>h1.imp (fun h=>h.1) fun h=>Nat.le_trans V9 h,HU.out⟩);go_wp2_with fail
     first | go_end0 | skip
     all_goals first | (rw [AL.out];exact Ac.out) | (refine bodyPost_ret (results_none rfl _ _ _) rfl ?_;show VisP J N w (cZ f l st1) _ _;rw [AL.out];exact Ac.out)
end Nm
namespace HT
open Go
section
variable {P : Program} {ops : Array Oper} {Q : Exit -> Act -> World -> Prop} {md : Region.Mode} {Z S : World -> Prop} {st : List Nat}
def none_(st:List Nat)(listed:Array Bool):Prop:=∀ s∈st,listed.getD s true=false
def bN(P:Program)(md:Region.Mode)(ops:Array Oper)(Q:Exit->Act->World->Prop)(Z S:World->Prop)(st:List Nat):Nat->Array Bool->Act->World->Prop
 | 0,listed,a,w=>Region.ready md ops listed=[]/\Q .normal a w
 | f+1,listed,a,w=>(Region.ready md ops listed=[]->Q .normal a w) /\
  ∀ i∈Region.ready md ops listed,wpOp P ops Q i (fun a' w'=>(Z w'/\(none_ st (listed.setIfInBounds i true)->S w'))/\bN P md ops Q Z S st f (listed.setIfInBounds i true) a' w') a w
theorem q8q:∀ (f:Nat) (listed:Array Bool) (a:Act) (w:World),bN P md ops Q Z S st f listed a w->wpAny P md ops Q f listed a w
 | 0,_,_,_,h=>h
 | f+1,_,_,_,h=>⟨h.1,fun i hi=>wpOp_mono (fun a' w' h'=>q8q f _ a' w' h'.2) (h.2 i hi)⟩
def waitB(md:Region.Mode)(ops:Array Oper)(st:List Nat)(i:Nat):Bool:=st.all fun s=>((ops[s]?).map (·.after.any fun e=>Region.binds md e && e.on==i)).getD false
theorem wait_no{i s:Nat}(hw:waitB md ops st i=true)(hs:s∈st){listed:Array Bool}(hi:listed.getD i true=false):s ∉ Region.ready md ops listed:=fun hr=>by
 have h1:=List.all_eq_true.1 hw s hs;obtain ⟨_,o,ho,hall⟩:=mem_ready.1 hr;rw [ho] at h1;simp only [Option.map_some,Option.getD_some] at h1;obtain ⟨e,he,hb⟩:=Array.any_eq_true'.1 h1;simp only [Bool.and_eq_true,beq_iff_eq] at hb;have h2:=hall e he hb.1;rw [hb.2] at h2;rcases Nat.lt_or_ge i listed.size with h' | h'
 ·simp [h'] at h2 hi;rw [hi] at h2;cases h2
 ·simp [Array.getElem?_eq_none h'] at h2
theorem q2t{j:Nat}{listed:Array Bool}(h:none_ st listed)(hj:j ∉ st):none_ st (listed.setIfInBounds j true):=fun s hs=>by
 have h1:=h s hs;have:s≠j:=fun e=>hj (e ▸ hs)
 rw [Array.getD_eq_getD_getElem?] at h1 ⊢;rw [Array.getElem?_setIfInBounds_ne (Ne.symm this)];exact h1
theorem first{i:Nat}{oi:Oper}{v:Value}(hi:ops[i]?=some oi)(hsel:∀ (j:Nat) (o:Oper) cs b,ops[j]?=some o->o.op≠.select cs b)
  (hQ:∀ c a w,Q (.panic c) (a.put oi.dst v) w->Q (.panic c) a w) (hw:waitB md ops st i=true) (hist:i ∉ st) :
  ∀ (f:Nat) (listed:Array Bool) (a:Act) (w:World),
   (∀ j oj,ops[j]?=some oj->j≠i->listed.getD j true=false->(∀ e∈oj.after,Region.binds md e=true->e.on≠i)->oi.apart ops oj=true) ->
   i∈Region.ready md ops listed->none_ st listed->YieldsIf P ops S oi v a->Z w->S w ->
   bN P md ops Q Z S st f (listed.setIfInBounds i true) (a.put oi.dst v) w->bN P md ops Q Z S st (f+1) listed a w:=by
 intro f
 induction f with
 | zero=>
  intro listed a w _ hr _ hy hZ hS H;refine ⟨fun h=>V0T,fun j hj=>?_⟩;by_cases hji:j=i
  ·subst hji;exact hy.wpOp hi hS ⟨⟨hZ,fun _=>hS⟩,H⟩
  ·have:=ready_mono hj hji;rw [H.1] at this;cases this
 | succ f ih=>
  intro listed a w hfree hr hn hy hZ hS H;refine ⟨fun h=>V0T,fun j hj=>?_⟩;by_cases hji:j=i
  ·subst hji;exact hy.wpOp hi hS ⟨⟨hZ,fun _=>hS⟩,H⟩
  ·have h1:=H.2 j (ready_mono hj hji);obtain ⟨hjun,oj,hoj,hall⟩:=mem_ready.1 hj;have hiun:=(mem_ready.1 hr).1;have hnot:∀ e∈oj.after,Region.binds md e=true->e.on≠i:=fun e he hb heq=>by
    exact V2K
   have hjst:j ∉ st:=fun h=>wait_no hw h hiun hj
   have h2:=wpOp_putIf hoj (hfree j oj hoj hji hjun hnot) (fun cs b=>hsel i oi cs b hi) (fun cs b=>hsel j oj cs b hoj) hQ hy h1;have hnj:=q2t hn hjst;refine wpOp_mono (fun a' w' h3=>?_) h2;have hS':S w':=h3.2.1.2 (q2t (q2t hn hist) hjst);refine ⟨⟨h3.2.1.1,fun _=>hS'⟩,ih (listed.setIfInBounds j true) a' w' (fun k ok hk hki hun hno=>hfree k ok hk hki ?_ hno) (ready_mono hr (Ne.symm hji)) hnj h3.1 h3.2.1.1 hS' ?_⟩
   ·exact V2R
   ·rw [Array.setIfInBounds_comm _ _ hji];exact h3.2.2
theorem firstP{i:Nat}{oi:Oper}{v:Value}(hi:ops[i]?=some oi)(hsel:∀ (j:Nat) (o:Oper) cs b,ops[j]?=some o->o.op≠.select cs b)
  (hQ:∀ c a w,Q (.panic c) (a.put oi.dst v) w->Q (.panic c) a w) (hist:i ∉ st) :
  ∀ (f:Nat) (listed:Array Bool) (a:Act) (w:World),
   (∀ j oj,ops[j]?=some oj->j≠i->listed.getD j true=false->(∀ e∈oj.after,Region.binds md e=true->e.on≠i)->oi.apart ops oj=true) ->
   i∈Region.ready md ops listed->Z w->(none_ st listed->S w)->YieldsIf P ops Z oi v a ->
   bN P md ops Q Z S st f (listed.setIfInBounds i true) (a.put oi.dst v) w->bN P md ops Q Z S st (f+1) listed a w:=by
 intro f
 induction f with
 | zero=>
  intro listed a w _ hr hZ hS hy H;refine ⟨fun h=>V0T,fun j hj=>?_⟩;by_cases hji:j=i
  ·exact V2F
  ·have:=ready_mono hj hji;rw [H.1] at this;cases this
 | succ f ih=>
  intro listed a w hfree hr hZ hS hy H;refine ⟨fun h=>V0T,fun j hj=>?_⟩;by_cases hji:j=i
  ·exact V2F
  ·have h1:=H.2 j (ready_mono hj hji);obtain ⟨hjun,oj,hoj,hall⟩:=mem_ready.1 hj;have hiun:=(mem_ready.1 hr).1;have hnot:∀ e∈oj.after,Region.binds md e=true->e.on≠i:=fun e he hb heq=>by
    exact V2K
   have h2:=wpOp_putIf hoj (hfree j oj hoj hji hjun hnot) (fun cs b=>hsel i oi cs b hi) (fun cs b=>hsel j oj cs b hoj) hQ hy h1;refine wpOp_mono (fun a' w' h3=>?_) h2;have hS':none_ st (listed.setIfInBounds j true)->S w':=fun hx=>h3.2.1.2 (by rw [Array.setIfInBounds_comm _ _ (Ne.symm hji)];exact q2t hx hist)
   refine ⟨⟨h3.2.1.1,hS'⟩,ih (listed.setIfInBounds j true) a' w' (fun k ok hk hki hun hno=>hfree k ok hk hki ?_ hno) (ready_mono hr (Ne.symm hji)) h3.2.1.1 hS' h3.1 ?_⟩
   ·exact V2R
   ·rw [Array.setIfInBounds_comm _ _ hji];exact h3.2.2
def noneB(st:List Nat)(listed:Array Bool):Bool:=st.all fun s=>!listed.getD s true
theorem none_of{listed:Array Bool}(h:noneB st listed=true):none_ st listed:=fun s hs=>by simpa using List.all_eq_true.1 h s hs
theorem take{i:Nat}{oi:Oper}{v:Value}{f:Nat}{listed:Array Bool}{a:Act}{w:World}(hi:ops[i]?=some oi)
  (hs:Region.noSelect ops=true) (hf:Region.free md ops listed i=true) (hr:(Region.ready md ops listed).contains i=true) (hw:waitB md ops st i=true) (hn:noneB st listed=true) (hist:st.contains i=false)
  (hQ:∀ c a w,Q (.panic c) (a.put oi.dst v) w->Q (.panic c) a w) (hy:YieldsIf P ops S oi v a) (hZ:Z w) (hS:S w)
  (h:bN P md ops Q Z S st f (listed.setIfInBounds i true) (a.put oi.dst v) w):bN P md ops Q Z S st (f+1) listed a w:=
 first hi (Region.noSelect_spec hs) hQ hw (by simpa using hist) f listed a w (Region.free_spec hi hf) (by simpa using hr) (none_of hn) hy hZ hS h
theorem bg{i:Nat}{oi:Oper}{v:Value}{f:Nat}{listed:Array Bool}{a:Act}{w:World}(hi:ops[i]?=some oi)
  (hs:Region.noSelect ops=true) (hf:Region.free md ops listed i=true) (hr:(Region.ready md ops listed).contains i=true) (hist:st.contains i=false)
  (hQ:∀ c a w,Q (.panic c) (a.put oi.dst v) w->Q (.panic c) a w) (hy:YieldsIf P ops Z oi v a) (hZ:Z w) (hS:none_ st listed->S w)
  (h:bN P md ops Q Z S st f (listed.setIfInBounds i true) (a.put oi.dst v) w):bN P md ops Q Z S st (f+1) listed a w:=
 firstP hi (Region.noSelect_spec hs) hQ (by simpa using hist) f listed a w (Region.free_spec hi hf) (by simpa using hr) hZ hS hy h
theorem takeS{i:Nat}{oi:Oper}{v:Value}{f:Nat}{listed:Array Bool}{a:Act}{w:World}(hi:ops[i]?=some oi)
  (hs:Region.noSelect ops=true) (hf:Region.free md ops listed i=true) (hr:(Region.ready md ops listed).contains i=true) (hist:st.contains i=false) (hn:noneB st listed=false)
  (hQ:∀ c a w,Q (.panic c) (a.put oi.dst v) w->Q (.panic c) a w) (hy:YieldsIf P ops Z oi v a) (hZ:Z w)
  (h:bN P md ops Q Z S st f (listed.setIfInBounds i true) (a.put oi.dst v) w):bN P md ops Q Z S st (f+1) listed a w:=
 bg hi hs hf hr hist hQ hy hZ (fun hx=>by
  have:noneB st listed=true:=List.all_eq_true.2 fun s hs=>by simpa using hx s hs
  rw [this] at hn;cases hn) h
theorem one{i:Nat}{o:Oper}{f:Nat}{listed:Array Bool}{a:Act}{w:World}(hr:Region.ready md ops listed=[i])(ho:ops[i]?=some o)
  (h:∀ K:Act->World->Prop,Shut (∀ a' w',Z w'->S w'->bN P md ops Q Z S st f (listed.setIfInBounds i true) a' w'->K a' w')->if Region.wanted o (yielded ops a.tmps)=true then Oper.wp P o a w K Q else K (a.put o.dst undef) w):bN P md ops Q Z S st (f+1) listed a w:=
 ⟨fun h0=>V0U,fun j hj=>by
  rw [hr] at hj;obtain rfl:=List.mem_singleton.1 hj;exact wpOp_step ho fun K hK=>h K fun a' w' hZ hS hW=>hK a' w' ⟨⟨hZ,fun _=>hS⟩,hW⟩⟩
theorem oneS{i:Nat}{o:Oper}{f:Nat}{listed:Array Bool}{a:Act}{w:World}(hr:Region.ready md ops listed=[i])(hist:noneB st (listed.setIfInBounds i true)=false)(ho:ops[i]?=some o)
  (h:∀ K:Act->World->Prop,Shut (∀ a' w',Z w'->bN P md ops Q Z S st f (listed.setIfInBounds i true) a' w'->K a' w')->if Region.wanted o (yielded ops a.tmps)=true then Oper.wp P o a w K Q else K (a.put o.dst undef) w):bN P md ops Q Z S st (f+1) listed a w:=
 ⟨fun h0=>V0U,fun j hj=>by
  rw [hr] at hj;obtain rfl:=List.mem_singleton.1 hj;refine wpOp_step ho fun K hK=>h K fun a' w' hZ hW=>hK a' w' ⟨⟨hZ,fun hx=>?_⟩,hW⟩
  have:noneB st (listed.setIfInBounds j true)=true:=List.all_eq_true.2 fun s hs=>by simpa using hx s hs
  rw [this] at hist;cases hist⟩
theorem done{f:Nat}{listed:Array Bool}{a:Act}{w:World}(hr:Region.ready md ops listed=[])(h:Q .normal a w):bN P md ops Q Z S st f listed a w:=by
 cases f with
 | zero=>exact ⟨hr,h⟩
 | succ f=>exact ⟨fun _=>h,fun i hi=>by rw [hr] at hi;cases hi⟩
theorem wp_region{id:Nat}{a:Act}{w:World}(hm:P.follows .mixedOrders=true)(h:bN P .any ops Q Z S st ops.size (Array.replicate ops.size false) a w.drew):(Code.region id ops true).wp P Q a w:=
 wp_region_any hm (q8q _ _ _ _ h)
end
section
variable {P : Program} {ops : Array Oper} {Q : Exit -> Act -> World -> Prop} {md : Region.Mode} {Z S : World -> Prop} {st : List Nat}
theorem tr {p : Prop} : p -> True := fun _ => trivial
theorem pS : (∀ (a : Act) (d : Nat) (v : Value), a.put (some d) v = { a with tmps := a.tmps.setIfInBounds d v }) /\ (∀ (l : List Value) (i : Nat) (v : Value), l.toArray.setIfInBounds i v = (l.set i v).toArray) /\ (∀ (l : List Oper) (i : Nat) (h : i < l.toArray.size), l.toArray[i] = l[i]'(by simpa using h)) /\
    (∀ (a b : Value) (l : List Value), (a :: l).set 0 b = b :: l) /\ (∀ (a b : Value) (l : List Value) (n : Nat), (a :: l).set (n + 1) b = a :: l.set n b) /\
    (∀ (a : Oper) (l : List Oper) (h : 0 < (a :: l).length), (a :: l)[0] = a) /\ (∀ (a : Oper) (l : List Oper) (n : Nat) (h : n + 1 < (a :: l).length), (a :: l)[n + 1] = l[n]'(Nat.lt_of_succ_lt_succ h)) /\ (∀ (a : Act) (v : Value), a.put none v = a) :=
  ⟨fun _ _ _ => rfl, fun _ _ _ => by simp, fun _ _ _ => rfl, fun _ _ _ => rfl, fun _ _ _ _ => rfl, fun _ _ _ => rfl, fun _ _ _ _ => rfl, fun _ _ => rfl⟩
theorem tk (i : Nat) {oi : Oper} {v : Value} {f : Nat} {listed : Array Bool} {a a' : Act} {w : World} (hi : ops[i]? = some oi) (hv : ∀ w', Z w' -> (execOp a.eval oi).run P w' = .ok (.value v) w') (hZ : Z w) (hS : none_ st listed -> S w)
    (h : bN P md ops Q Z S st f (listed.setIfInBounds i true) a' w) (hs : Region.noSelect ops = true := by kernel_rfl) (hf : Region.free md ops listed i = true := by kernel_rfl) (hr : (Region.ready md ops listed).contains i = true := by kernel_rfl) (hist : st.contains i = false := by kernel_rfl)
    (hQ : ∀ c a w, Q (.panic c) (a.put oi.dst v) w -> Q (.panic c) a w := by exact fun _ _ _ h => h) (hw : Region.wanted oi (yielded ops a.tmps) = true := by rfl) (ha : a.put oi.dst v = a' := by simp only [HT.pS] <;> rfl) : bN P md ops Q Z S st (f + 1) listed a w :=
  bg hi hs hf hr hist hQ (.inl ⟨hw, hv⟩) hZ hS (ha ▸ h)
theorem tm (i : Nat) {oi : Oper} {v : Value} {f : Nat} {listed : Array Bool} {a a' : Act} {w : World} (hi : ops[i]? = some oi) (hZ : Z w) (hS : none_ st listed -> S w)
    (h : bN P md ops Q Z S st f (listed.setIfInBounds i true) a' w) (hv : ∀ w', Z w' -> (execOp a.eval oi).run P w' = .ok (.value v) w' := by (intro v hSw; clear hSw; go_simp; try with_reducible rfl)) (hs : Region.noSelect ops = true := by kernel_rfl) (hf : Region.free md ops listed i = true := by kernel_rfl) (hr : (Region.ready md ops listed).contains i = true := by kernel_rfl) (hist : st.contains i = false := by kernel_rfl)
    (hQ : ∀ c a w, Q (.panic c) (a.put oi.dst v) w -> Q (.panic c) a w := by exact fun _ _ _ h => h) (hw : Region.wanted oi (yielded ops a.tmps) = true := by rfl) (ha : a.put oi.dst v = a' := by simp only [HT.pS] <;> rfl) : bN P md ops Q Z S st (f + 1) listed a w :=
  bg hi hs hf hr hist hQ (.inl ⟨hw, hv⟩) hZ hS (ha ▸ h)
theorem sk (i : Nat) {oi : Oper} {f : Nat} {listed : Array Bool} {a a' : Act} {w : World} (hi : ops[i]? = some oi) (hZ : Z w) (hS : none_ st listed -> S w)
    (h : bN P md ops Q Z S st f (listed.setIfInBounds i true) a' w) (hs : Region.noSelect ops = true := by kernel_rfl) (hf : Region.free md ops listed i = true := by kernel_rfl) (hr : (Region.ready md ops listed).contains i = true := by kernel_rfl) (hist : st.contains i = false := by kernel_rfl)
    (hQ : ∀ c a w, Q (.panic c) (a.put oi.dst undef) w -> Q (.panic c) a w := by exact fun _ _ _ h => h) (hw : Region.wanted oi (yielded ops a.tmps) = false := by rfl) (ha : a.put oi.dst undef = a' := by simp only [HT.pS] <;> rfl) : bN P md ops Q Z S st (f + 1) listed a w :=
  bg hi hs hf hr hist hQ (.inr ⟨hw, rfl⟩) hZ hS (ha ▸ h)
theorem ts (i : Nat) {oi : Oper} {v : Value} {f : Nat} {listed : Array Bool} {a a' : Act} {w : World} (hi : ops[i]? = some oi) (hv : ∀ w', S w' -> (execOp a.eval oi).run P w' = .ok (.value v) w') (hZ : Z w) (hS : S w)
    (h : bN P md ops Q Z S st f (listed.setIfInBounds i true) a' w) (hs : Region.noSelect ops = true := by kernel_rfl) (hf : Region.free md ops listed i = true := by kernel_rfl) (hr : (Region.ready md ops listed).contains i = true := by kernel_rfl) (hwt : waitB md ops st i = true := by kernel_rfl) (hn : noneB st listed = true := by kernel_rfl) (hist : st.contains i = false := by kernel_rfl)
    (hQ : ∀ c a w, Q (.panic c) (a.put oi.dst v) w -> Q (.panic c) a w := by exact fun _ _ _ h => h) (hw : Region.wanted oi (yielded ops a.tmps) = true := by rfl) (ha : a.put oi.dst v = a' := by simp only [HT.pS] <;> rfl) : bN P md ops Q Z S st (f + 1) listed a w :=
  take hi hs hf hr hwt hn hist hQ (.inl ⟨hw, hv⟩) hZ hS (ha ▸ h)
theorem tgm (i : Nat) {oi : Oper} {v : Value} {f : Nat} {listed : Array Bool} {a a' : Act} {w : World} (hi : ops[i]? = some oi) (hZ : Z w)
    (h : bN P md ops Q Z S st f (listed.setIfInBounds i true) a' w) (hv : ∀ w', Z w' -> (execOp a.eval oi).run P w' = .ok (.value v) w' := by (intro v hSw; clear hSw; go_simp; try with_reducible rfl)) (hs : Region.noSelect ops = true := by kernel_rfl) (hf : Region.free md ops listed i = true := by kernel_rfl) (hr : (Region.ready md ops listed).contains i = true := by kernel_rfl) (hist : st.contains i = false := by kernel_rfl) (hn : noneB st listed = false := by kernel_rfl)
    (hQ : ∀ c a w, Q (.panic c) (a.put oi.dst v) w -> Q (.panic c) a w := by exact fun _ _ _ h => h) (hw : Region.wanted oi (yielded ops a.tmps) = true := by rfl) (ha : a.put oi.dst v = a' := by simp only [HT.pS] <;> rfl) : bN P md ops Q Z S st (f + 1) listed a w :=
  takeS hi hs hf hr hist hn hQ (.inl ⟨hw, hv⟩) hZ (ha ▸ h)
theorem m (i : Nat) {oi : Oper} {v : Value} {f : Nat} {listed : Array Bool} {a a' : Act} {w : World} (hZ : Z w) (h : bN P md ops Q Z S st f (listed.setIfInBounds i true) a' w) (hi : ops[i]? = some oi := by rfl) (hS : none_ st listed -> S w := by exact HT.tr) (hv : ∀ w', Z w' -> (execOp a.eval oi).run P w' = .ok (.value v) w' := by (intro v hSw; clear hSw; go_simp; try with_reducible rfl)) (hs : Region.noSelect ops = true := by kernel_rfl) (hf : Region.free md ops listed i = true := by kernel_rfl) (hr : (Region.ready md ops listed).contains i = true := by kernel_rfl) (hist : st.contains i = false := by kernel_rfl)
    (hQ : ∀ c a w, Q (.panic c) (a.put oi.dst v) w -> Q (.panic c) a w := by exact fun _ _ _ h => h) (hw : Region.wanted oi (yielded ops a.tmps) = true := by rfl) (ha : a.put oi.dst v = a' := by simp only [HT.pS] <;> rfl) : bN P md ops Q Z S st (f + 1) listed a w :=
  bg hi hs hf hr hist hQ (.inl ⟨hw, hv⟩) hZ hS (ha ▸ h)
theorem k (i : Nat) {oi : Oper} {v : Value} {f : Nat} {listed : Array Bool} {a a' : Act} {w : World} (hi : ops[i]? = some oi) (hv : ∀ w', Z w' -> (execOp a.eval oi).run P w' = .ok (.value v) w') (hZ : Z w) (h : bN P md ops Q Z S st f (listed.setIfInBounds i true) a' w) (hS : none_ st listed -> S w := by exact HT.tr) (hs : Region.noSelect ops = true := by kernel_rfl) (hf : Region.free md ops listed i = true := by kernel_rfl) (hr : (Region.ready md ops listed).contains i = true := by kernel_rfl) (hist : st.contains i = false := by kernel_rfl)
    (hQ : ∀ c a w, Q (.panic c) (a.put oi.dst v) w -> Q (.panic c) a w := by exact fun _ _ _ h => h) (hw : Region.wanted oi (yielded ops a.tmps) = true := by rfl) (ha : a.put oi.dst v = a' := by simp only [HT.pS] <;> rfl) : bN P md ops Q Z S st (f + 1) listed a w :=
  bg hi hs hf hr hist hQ (.inl ⟨hw, hv⟩) hZ hS (ha ▸ h)
theorem s (i : Nat) {oi : Oper} {f : Nat} {listed : Array Bool} {a a' : Act} {w : World} (hZ : Z w) (h : bN P md ops Q Z S st f (listed.setIfInBounds i true) a' w) (hi : ops[i]? = some oi := by rfl) (hS : none_ st listed -> S w := by exact HT.tr) (hs : Region.noSelect ops = true := by kernel_rfl) (hf : Region.free md ops listed i = true := by kernel_rfl) (hr : (Region.ready md ops listed).contains i = true := by kernel_rfl) (hist : st.contains i = false := by kernel_rfl)
    (hQ : ∀ c a w, Q (.panic c) (a.put oi.dst undef) w -> Q (.panic c) a w := by exact fun _ _ _ h => h) (hw : Region.wanted oi (yielded ops a.tmps) = false := by rfl) (ha : a.put oi.dst undef = a' := by simp only [HT.pS] <;> rfl) : bN P md ops Q Z S st (f + 1) listed a w :=
  bg hi hs hf hr hist hQ (.inr ⟨hw, rfl⟩) hZ hS (ha ▸ h)
end
end HT
namespace Nm
open Go Go.ChangeShapes Go.WideShapes Go.ChangeAt Go.RowKit Lx Args Pa Sh
structure IsN(w:World)(G:FuncId)(r:Value)(isN:Bs->Bool):Prop where
 enter:∀ (a:Value) (w:World),(callFunc G #[r,a]).run Tryz.prog w = .ok (.enter G #[r,a]) w
 call:∀ w',Below w.heap.size w w'->∀ s:Bs,s.length<=maxLen->Calls Tryz.prog G #[r,.string ⟨s.toArray⟩] w' (TellP w' (isN s))
theorem IsN.below{w w':World}{G:FuncId}{r:Value}{isN:Bs->Bool}(h:IsN w G r isN)(hb:Below w.heap.size w w'):IsN w' G r isN:=⟨h.enter,fun v hv=>h.call v (hb.trans (hv.mono hb.size))⟩
def exF(isN:Bs->Bool)(cal:Bs->Nat->Bool):Tz->Unit->Int ⊕ Unit
 | .mk k a s _ _ l,_=>if (k = 1/\isN s=false)\/(k = 5/\cal s l.length=false) then .inl a else .inr ()
def toS(o:Option Int):Int ⊕ Unit:=match o with | some a=>.inl a | none=>.inr ()
mutual
theorem q5X(isN:Bs->Bool)(cal:Bs->Nat->Bool):∀ z,foldT (exF isN cal) z ()=toS (exB isN cal z)
 | .mk k a s n ps l=>by
  rw [q4Z];unfold exB;by_cases h:(k = 1/\isN s=false)\/(k = 5/\cal s l.length=false)
  ·rw [if_pos h,show exF isN cal (.mk k a s n ps l) () = .inl a from if_pos h];rfl
  ·rw [if_neg h,show exF isN cal (.mk k a s n ps l) () = .inr () from if_neg h];exact q50 isN cal l
theorem q50(isN:Bs->Bool)(cal:Bs->Nat->Bool):∀ l,cZ (exF isN cal) l ()=toS (aB isN cal l)
 | []=>by unfold cZ aB;rfl
 | x :: l=>by
  rw [q2E,q5X isN cal x];unfold aB;cases exB isN cal x with
  | some a=>rfl
  | none=>exact q50 isN cal l
end
def ExP(w:World)(o:Option Int)(e:Ending)(w':World):Prop:=match o with | some a=>e=panW a/\Below w.heap.size w w' | none=>e = .returned (.tuple #[])/\Below w.heap.size w w'
theorem exprs1{wE:World}{g:Nat}{kn:Kn}{G:FuncId}{r:Value}{isN:Bs->Bool}{b1 b2:Nat}(hk:KnP wE g kn)(hI:IsN wE G r isN)(h1:wE.cell? ⟨b1,0,none⟩=some (.func (.func G) #[r] #[]))(h2:wE.cell? ⟨b2,0,none⟩=some (.pointer (some ⟨g,0,none⟩)))
  (w:World) (hb:Below wE.heap.size wE w) (k a:Int) (s:Bs) (n:Nat) (A:Option Addr) (la cA:Nat) (B:Option Addr) (lb cB:Nat) (hs:s.length<=maxLen) (hla:la<=maxLen) :
  Calls Tryz.prog 191 #[aO k a s n A la cA B lb cB,.pointer (some ⟨b1,0,none⟩),.pointer (some ⟨b2,0,none⟩)] w (ExP w (if (k = 1/\isN s=false)\/(k = 5/\aR kn s la=false) then some a else none)):=by
 obtain ⟨wn,hwn,hbn,aK,hsn⟩:=dw w (nB k a s n A la cA B lb cB);have hbE:=hb.trans (hbn.mono hb.size);have HBX:=Hi fun v (hv:Below wE.heap.size wE v)=>And.intro ((hv.cell (World.block_lt_of_cell? wE _ h1)).trans h1) ((hv.cell (World.block_lt_of_cell? wE _ h2)).trans h2)
 have HK:=Hi fun v (hv:Below wE.heap.size wE v)=>isCalled v g kn (hk.below hv) s hs la
 have HN:=Hi fun v (hv:Below wE.heap.size wE v)=>hI.call v hv s hs
 have hen:=hI.enter;have HBE:=Hi hbE;have HWN:=Hi hwn;have HBN:=Hi hbn;have HXN:=Hi aK;obtain ⟨⟨e0,e1,e2,e3,e4,e5⟩,z0,z1,z2,z3,z4,z5⟩:=Aa.c6 aK;have hlam:la<=9223372036854775807:=hla;clear hk hI h1 h2 hb hbn aK hwn hbE hsn hla;obtain ⟨res,hres⟩:∃ res,(if (k = 1/\isN s=false)\/(k = 5/\aR kn s la=false) then some a else none)=res:=⟨_,rfl⟩;rw [hres];have Ad:=Hi hres;clear hres;go_enter Tryz.func191,Tryz.ntmps191;by_cases hk1:k = 1
 ·subst hk1;go_wp2_with fail
  rw [HWN.out];have hdr:Below wn.heap.size wn wn.drew:=Below.drew (Below.refl _ _);obtain ⟨wd,hwd⟩:∃ v,wn.drew=v:=⟨_,rfl⟩;rw [hwd] at hdr;have HXd:=Hi (HXN.out.below hdr HXN.out.lt);have HBd:=Hi (HBE.out.trans (hdr.mono HBE.out.size));have HBW:=Hi (HBN.out.trans (hdr.mono HBN.out.size));clear hdr e0 e1 e2 e3 e4 e5 z0 z1 z2 z3 z4 z5;have aa:Below wd.heap.size wd wd:=Below.refl _ _;refine HT.wp_region (Z:=fun w'=>Below wd.heap.size wd w') (S:=fun _=>True) (st:=[]) V1 ?_;rw [hwd];clear hwd;refine HT.k 0 rfl Vm aa ?_;refine HT.k 1 rfl Vm aa ?_;refine HT.k 2 rfl Vm aa ?_;refine HT.k 3 rfl Vm aa ?_;have HC:=Hi (HN.out wd HBd.out);refine HT.one (i:=4) V1 rfl (fun K hK=>?_);go_simp;refine HC.out.mono ?_;rintro e w5 ⟨rfl,hb5⟩;(try dsimp only);refine hK.out _ _ hb5 trivial ?_;clear hK K;(try simp only [HT.pS]);refine HT.m 5 hb5 ?_;have HR:=Hi (refuse w5 1 a s n A la cA B lb cB (!isN s));have HB5:=Hi (HBW.out.trans (hb5.mono HBW.out.size));obtain ⟨q,hq⟩:∃ q,isN s=q:=⟨_,rfl⟩;rw [hq] at HR ⊢;have HRES2:=Hi (show (if q=false then some a else none)=res by rw [<-Ad.out,hq];simp);clear HC HN HK HBX hq Ad;cases q with
  | true=>
   refine HT.one (i:=6) V1 rfl (fun K hK=>?_);go_simp;refine (show Calls Tryz.prog 162 #[aO 1 a s n A la cA B lb cB,.bool false] w5 _ from HR.out).mono ?_;exact V2l
  | false=>
   refine HT.one (i:=6) V1 rfl (fun K hK=>?_);go_simp;refine (show Calls Tryz.prog 162 #[aO 1 a s n A la cA B lb cB,.bool true] w5 _ from HR.out).mono ?_;exact V2P
 by_cases hk5:k = 5
 ·subst hk5;go_wp2_with fail
  rw [HWN.out];have hdr:Below wn.heap.size wn wn.drew:=Below.drew (Below.refl _ _);obtain ⟨wd,hwd⟩:∃ v,wn.drew=v:=⟨_,rfl⟩;rw [hwd] at hdr;have HXd:=Hi (HXN.out.below hdr HXN.out.lt);have HBd:=Hi (HBE.out.trans (hdr.mono HBE.out.size));have HBW:=Hi (HBN.out.trans (hdr.mono HBN.out.size));clear hdr e0 e1 e2 e3 e4 e5 z0 z1 z2 z3 z4 z5;have aa:Below wd.heap.size wd wd:=Below.refl _ _;refine HT.wp_region (Z:=fun w'=>Below wd.heap.size wd w') (S:=fun _=>True) (st:=[]) V1 ?_;rw [hwd];clear hwd;refine HT.k 0 rfl Vm aa ?_;refine HT.k 1 rfl Vm aa ?_;refine HT.k 2 rfl Vm aa ?_;refine HT.k 3 rfl Vm aa ?_;refine HT.k 4 rfl Vm aa ?_;refine HT.k 5 rfl Vm aa ?_;refine HT.k 6 rfl Vm aa ?_;have HC:=Hi (HK.out wd HBd.out);refine HT.one (i:=7) V1 rfl (fun K hK=>?_);go_simp;refine HC.out.mono ?_;rintro e w5 ⟨rfl,hb5⟩;(try dsimp only);refine hK.out _ _ hb5 trivial ?_;clear hK K;(try simp only [HT.pS]);refine HT.m 8 hb5 ?_;have HR:=Hi (refuse w5 5 a s n A la cA B lb cB (!aR kn s la));have HB5:=Hi (HBW.out.trans (hb5.mono HBW.out.size));obtain ⟨q,hq⟩:∃ q,aR kn s la=q:=⟨_,rfl⟩;rw [hq] at HR ⊢;have HRES2:=Hi (show (if q=false then some a else none)=res by rw [<-Ad.out,hq];simp);clear HC HN HK HBX hq Ad;cases q with
  | true=>
   refine HT.one (i:=9) V1 rfl (fun K hK=>?_);go_simp;refine (show Calls Tryz.prog 162 #[aO 5 a s n A la cA B lb cB,.bool false] w5 _ from HR.out).mono ?_;exact V2l
  | false=>
   refine HT.one (i:=9) V1 rfl (fun K hK=>?_);go_simp;refine (show Calls Tryz.prog 162 #[aO 5 a s n A la cA B lb cB,.bool true] w5 _ from HR.out).mono ?_;exact V2P
 have i1:(k==1)=false:=V4;have i5:(k==5)=false:=V4;have HRES2:=Hi (show none=res by rw [<-Ad.out,if_neg];rintro (⟨h,_⟩ | ⟨h,_⟩) <;> omega);clear HN HK HBX hk1 hk5 Ad;go_wp2_with fail
 rw [HWN.out]
 first | go_end0 | skip
 all_goals (rw [<-HRES2.out];first | exact ⟨rfl,HBN.out⟩ | exact bodyPost_ret (results_none rfl _ _ _) rfl ⟨rfl,HBN.out⟩)
theorem exprs(w0 w:World)(g:Nat)(kn:Kn)(G:FuncId)(r:Value)(isN:Bs->Bool)(A:Option Addr)(cA:Nat)(l:List Tz)(css:List (List Value))(hb:Below w0.heap.size w0 w)(hL:Af w0 A css.flatten)(hS:TsIz w0 l css)(hl:l.length<=maxLen)(hlz:aY l)(hk:KnP w g kn)(hI:IsN w G r isN) :
  Calls Tryz.prog 168 #[.pointer (some ⟨g,0,none⟩),.func (.func G) #[r] #[],.slice A l.length cA] w (ExP w (aB isN (aR kn) l)):=by
 have hlm:l.length<=9223372036854775807:=hl;obtain ⟨wa,hwa,aL,hXa⟩:=aS w #[.pointer (some ⟨g,0,none⟩)] 101;have hsa:wa.heap.size=w.heap.size+1:=by rw [<-hwa];simp
 obtain ⟨wE,hwE,hbE,hXE⟩:=aS wa #[.func (.func G) #[r] #[]] 37;have hbw:Below w.heap.size w wE:=aL.trans (hbE.mono aL.size);rw [hsa] at hXE;have h2:wE.cell? ⟨w.heap.size,0,none⟩=some (.pointer (some ⟨g,0,none⟩)):=(hXa.below hbE hXa.lt).cell 0;have h1:wE.cell? ⟨w.heap.size+1,0,none⟩=some (.func (.func G) #[r] #[]):=hXE.cell 0;have V:∀ lim,Vis w0 191 (.pointer (some ⟨w.heap.size+1,0,none⟩)) (.pointer (some ⟨w.heap.size,0,none⟩)) (exF isN (aR kn)) (fun _ v _=>Below wE.heap.size wE v) (fun _=>0) lim:=by
  intro lim;refine ⟨fun _ _ _ _=>Nat.zero_le _,fun _ _=>V1,fun _ _ _ _ h _=>h,fun _ _ _ _ h h'=>h.trans (h'.mono h.size),fun N v st z k a s n A la cA B lb cB hv hT hz _ hJ=>?_⟩;obtain ⟨k1,a1,s1,n1,ps,l1⟩:=z;obtain ⟨rfl,rfl,rfl,rfl,rfl,rfl,hl1,_⟩:=q0B hT;refine (exprs1 (hk.below hbw) (hI.below hbw) h1 h2 v hJ k a s n A l1.length cA B ps.length cB (q0G hz).1 hl1).mono fun e w' he=>?_
  by_cases h:(k = 1/\isN s=false)\/(k = 5/\aR kn s l1.length=false)
  ·rw [if_pos h] at he;rw [show exF isN (aR kn) (.mk k a s n ps l1) st = .inl a from if_pos h];exact ⟨he.1,Upd.of_below he.2 _⟩
  ·rw [if_neg h] at he;rw [show exF isN (aR kn) (.mk k a s n ps l1) st = .inr () from if_neg h];exact ⟨he.1,hJ.trans (he.2.mono hJ.size),Upd.of_below he.2 _⟩
 have HV:=Hi V;have HL:=Hi hL;have HS:=Hi hS;have HLZ:=Hi hlz;have HWA:=Hi hwa;have HWE:=Hi hwE;have HBW:=Hi hbw;have HB:=Hi hb;obtain ⟨res,hres⟩:∃ res,aB isN (aR kn) l=res:=⟨_,rfl⟩;rw [hres];have Ad:=Hi hres;have hse:=hXE.lt;clear V hL hS hlz hwa hwE hbw hb h1 h2 hXE hXa aL hbE hk hI hl hres;go_enter Tryz.func168,Tryz.ntmps168;go_wp2_with fail
 rw [HWA.out,HWE.out]
 go_loopw [10] (fun vi wr=>∃ i:Nat,i<=l.length/\vi = .int .i64 (i:Int)/\Hid (Below wE.heap.size wE wr)/\Hid (aB isN (aR kn) (l.drop i)=res)) (fun vi _=>l.length - (intOf vi).toNat)
 case atStart=>exact ⟨0,V0,rfl,Hi (Below.refl _ _),Ad⟩
 case round=>
  obtain ⟨i,hi,rfl,HH,HQ⟩:=hrel;by_cases hlt:i < l.length
  ·have hil:(i:Int) < (l.length:Int):=by omega
   obtain ⟨y,hy⟩:∃ y,l[i]?=some y:=⟨_,List.getElem?_eq_getElem hlt⟩;have hbr:=HBW.out.trans (HH.out.mono HBW.out.size);have hb0:=HB.out.trans (hbr.mono HB.out.size);obtain ⟨b,o,k',a',s',n',A',la',bu,B',lb',bA,rfl,hTy,hbl,g0,g1,g2,g3,g4,g5⟩:=q0T hb0 HL.out HS.out hy;obtain ⟨wb,hwb,hbb,hXb,hsb⟩:=dw wr (nB k' a' s' n' A' la' bu B' lb' bA);have hC:=each (HV.out (0+cntz y)) (SizeOf.sizeOf y+1) y (Nat.lt_succ_self _) (fun _=>False) wb () k' a' s' n' A' la' bu B' lb' bA (hb0.trans (hbb.mono hb0.size)) hTy (q1W HLZ.out hy) (fun _ h=>h.elim) (Nat.le_refl _) (HH.out.trans (hbb.mono HH.out.size));rw [q5X] at hC;have hq:=HQ.out;rw [drop_at hy] at hq
   conv at hq=>lhs;unfold aB
   obtain ⟨⟨e0,e1,e2,e3,e4,e5⟩,z0,z1,z2,z3,z4,z5⟩:=Aa.c6 hXb;have HC:=Hi hC;have HWB:=Hi hwb;have AL:=Hi hq;have Ay:=Hi (hbr.trans (hbb.mono hbr.size));clear hC hwb hbb hXb hq hTy hy hbr hb0;generalize exB isN (aR kn) y=r2 at HC AL;go_wp2_with fail
   rw [HWB.out];refine (show Calls Tryz.prog 190 #[aO k' a' s' n' A' la' bu B' lb' bA,.func (.func 191) #[] #[.pointer (some ⟨w.heap.size+1,0,none⟩),.pointer (some ⟨w.heap.size,0,none⟩)]] wb _ from HC.out).mono ?_;intro e w4 h4;cases r2 with
   | some a2=>
    obtain ⟨rfl,aF⟩:=h4;have Ac:=Hi (show Below w.heap.size w w4 from Ay.out.trans ((aF.below (Nat.le_refl _) fun _ h=>h.elim).mono Ay.out.size));have HQ3:=Hi (show some a2=res from AL.out);clear aF;go_wp2_with fail
    rw [<-HQ3.out];exact ⟨rfl,rfl,Ac.out⟩
   | none=>
    obtain ⟨rfl,hj4,aF⟩:=h4;have HJ4:=Hi hj4;clear hj4 aF;go_wp2_with fail
    go_roundw
    case rel=>exact ⟨i+1,V0,V7,HJ4,AL⟩
    case measure=>simp [intOf];omega
  ·obtain rfl:i=l.length:=by omega
   have hq:=HQ.out;rw [List.drop_length] at hq
   conv at hq=>lhs;unfold aB
   have AL:=Hi hq;have Ac:=Hi (HBW.out.trans (HH.out.mono HBW.out.size));clear hq;go_wp2_with fail
   first | go_end0 | skip
   all_goals (rw [<-AL.out];first | exact ⟨rfl,Ac.out⟩ | exact bodyPost_ret (results_none rfl _ _ _) rfl ⟨rfl,Ac.out⟩)
abbrev In2(N:Nat->Prop)(w wn:World):Nat->Prop:=fun b=>(N b/\b < w.heap.size)\/wn.heap.size<=b
theorem q0e{N:Nat->Prop}{lo:Nat}{w wn:World}{g:Nat}{c:St}{m:Nat}(h:CK N lo w g c m)(hb:Below w.heap.size w wn):CK (In2 N w wn) lo wn g c m:=(h.mono (N':=fun b=>N b/\b < w.heap.size) fun b h1 h2 _=>⟨h1,h2⟩).below hb |>.mono fun b h1 _ _=>.inl h1
theorem q1v{N:Nat->Prop}{lo:Nat}{w wn wr w':World}{g:Nat}{c:St}{m:Nat}(h:CK (New (In2 N w wn) wr) lo w' g c m)(hs:wn.heap.size<=wr.heap.size):CK (In2 N w wn) lo w' g c m:=h.mono fun b h1 _ _=>h1.elim id fun h=>.inr (Nat.le_trans hs h)
theorem q2b{N:Nat->Prop}{lo:Nat}{w wn w':World}{g:Nat}{c:St}{m:Nat}(h:CK (In2 N w wn) lo w' g c m)(hs:w.heap.size<=wn.heap.size):CK (New N w) lo w' g c m:=h.mono fun b h1 _ _=>h1.imp (fun h=>h.1) fun h=>Nat.le_trans hs h
theorem q0i{N:Nat->Prop}{w wn wr w':World}(h:Upd N w wr)(hu:Upd (In2 N w wn) wr w')(hs:w.heap.size<=wn.heap.size):Upd N w w':=dm h hu fun b hb hlt=>hb.elim (fun h=>h.1) fun h=>V0
theorem q0U{N:Nat->Prop}{w0 w wn:World}(hN:∀ b,N b->w0.heap.size<=b)(hs:w0.heap.size<=wn.heap.size):∀ b,In2 N w wn b->w0.heap.size<=b:=fun b hb=>hb.elim (fun h=>hN b h.1) fun h=>Nat.le_trans hs h
theorem q0V{X:Nat->Prop}{w0 w w':World}(hb:Below w0.heap.size w0 w)(hu:Upd X w w')(hX:∀ b,X b->w0.heap.size<=b):Below w0.heap.size w0 w':=hb.trans (hu.below hb.size hX)
theorem inputs(w0 w:World)(N:Nat->Prop)(lo g:Nat)(c:St)(m:Nat)(k a:Int)(s:Bs)(n:Nat)(A:Option Addr)(la cA:Nat)(B:Option Addr)(cB:Nat)(ps:List Bs)(hb:Below w0.heap.size w0 w)(hB:Af w0 B (ps.map ai))(hps:ps.length<=maxLen)(hpl:∀ p∈ps,p.length<=maxLen)
  (hN:∀ b,N b->w0.heap.size<=b) (hc:CK N lo w g c m) (hm:m+ps.length<=1099511627776) :
  Calls Tryz.prog 142 #[.pointer (some ⟨g,0,none⟩),aO k a s n A la cA B ps.length cB] w (Ag N lo w g (inB a ps c) (m+ps.length)):=by
 have hpm:ps.length<=9223372036854775807:=hps;obtain ⟨wn,hwn,hbn,aK,hsn⟩:=dw w (nB k a s n A la cA B ps.length cB);obtain ⟨⟨e0,e1,e2,e3,e4,e5⟩,z0,z1,z2,z3,z4,z5⟩:=Aa.c6 aK;have HC0:=Hi (q0e hc hbn);have Bc:=Hi (Upd.of_below hbn N);have HX0:=Hi aK;have HW:=Hi hwn;have HB0:=Hi (hb.trans (hbn.mono hb.size));have HB:=Hi hB;have HPL:=Hi hpl;have HM:=Hi hm;have HN:=Hi (q0U (w:=w) hN (Nat.le_trans hb.size hbn.size));have HSN:=Hi hsn;obtain ⟨res,hres⟩:∃ res,inB a ps c=res:=⟨_,rfl⟩;rw [hres];have Ad:=Hi hres;have hgl:=aK.lt;clear hc hbn aK hwn hb hB hpl hm hN hps hres hsn;go_enter Tryz.func142,Tryz.ntmps142;go_wp2_with fail
 rw [HW.out]
 go_loopw [9] (fun vi wr=>∃ (i:Nat) (ci:St),i<=ps.length/\vi = .int .i64 (i:Int)/\Hid (CK (In2 N w wn) lo wr g ci (m+i))/\Hid (Upd N w wr)/\Hid (Below w0.heap.size w0 wr)/\Hid (Aa wr w.heap.size 26 (nB k a s n A la cA B ps.length cB))/\Hid (inB a (ps.drop i) ci=res)/\Hid (wn.heap.size<=wr.heap.size)) (fun vi _=>ps.length - (intOf vi).toNat)
 case atStart=>exact ⟨0,c,V0,rfl,HC0,Bc,HB0,HX0,Ad,Hi (Nat.le_refl _)⟩
 case round=>
  obtain ⟨i,ci,hi,rfl,HC,HU,HBE,HX,HQ,HSZ⟩:=hrel;by_cases hlt:i < ps.length
  ·obtain ⟨p,hp⟩:∃ p,ps[i]?=some p:=⟨_,List.getElem?_eq_getElem hlt⟩;have f1:(ps.map ai)[i]?=some (.string ⟨p.toArray⟩):=VE;obtain ⟨b,o,rfl,_,hc1⟩:=(HB.out.below HBE.out).at_ f1;have g1:=hc1 _ _ f1;have hpp:=HPL.out p (List.mem_of_getElem? hp);have hq:=HQ.out;rw [drop_at hp] at hq;unfold inB at hq;have hdr:Below wr.heap.size wr wr.drew:=Below.drew (Below.refl _ _);obtain ⟨wd,hwd⟩:∃ v,wr.drew=v:=⟨_,rfl⟩;rw [hwd] at hdr;have HXd:=Hi (HX.out.below hdr HX.out.lt);have HCd:=Hi (HC.out.below hdr);have HUd:=Hi (dm HU.out (Upd.of_below hdr fun _=>False) fun _ h=>h.elim);have HBd:=Hi (HBE.out.trans (hdr.mono HBE.out.size));have hsd:=hdr.size;have aa:Below wd.heap.size wd wd:=Below.refl _ _;have HNM:=Hi (isNamed wd g ci.kn HCd.out.knp p hpp);clear hc1 f1 hp HQ hdr;go_wp2_with fail
   clear g1;refine HT.wp_region (Z:=fun w'=>Below wd.heap.size wd w') (S:=fun _=>True) (st:=[]) V1 ?_;rw [hwd];clear hwd;refine HT.k 0 rfl Vh aa ?_;refine HT.k 1 rfl Vh aa ?_;refine HT.k 2 rfl Vh aa ?_;refine HT.one (i:=3) V1 rfl (fun K hK=>?_);go_simp;refine HNM.out.mono ?_;rintro e w5 ⟨rfl,hb5⟩;(try dsimp only);refine hK.out _ _ hb5 trivial ?_;clear hK K;(try simp only [HT.pS]);have HR:=Hi (refuse w5 k a s n A la cA (some ⟨b,o,none⟩) ps.length cB (aQ ci.kn p));obtain ⟨q,hqn⟩:∃ q,aQ ci.kn p=q:=⟨_,rfl⟩;rw [hqn] at HR hq ⊢;have HQ:=Hi hq;clear HNM hqn hq;cases q with
   | true=>
    have AL:=Hi (show Rs.bad a=res from HQ.out);refine HT.one (i:=4) V1 rfl (fun K hK=>?_);go_simp;refine (show Calls Tryz.prog 162 #[aO k a s n A la cA (some ⟨b,o,none⟩) ps.length cB,.bool true] w5 _ from HR.out).mono ?_;rintro e w6 ⟨rfl,hb6⟩;have Ac:=Hi (dm (dm HUd.out (Upd.of_below hb5 fun _=>False) fun _ h=>h.elim) (Upd.of_below hb6 fun _=>False) fun _ h=>h.elim);clear hb6;have HEND2:=Hi (show Ag N lo w g res (m+ps.length) (panW a) w6 from by rw [<-AL.out];exact ⟨rfl,Ac.out⟩);exact ⟨rfl,HEND2.out⟩
   | false=>
    refine HT.one (i:=4) V1 rfl (fun K hK=>?_);go_simp;refine (show Calls Tryz.prog 162 #[aO k a s n A la cA (some ⟨b,o,none⟩) ps.length cB,.bool false] w5 _ from HR.out).mono ?_;rintro e w6 ⟨rfl,hb6⟩;have di:=hb5.trans (hb6.mono hb5.size);have HC6:=Hi (HCd.out.below di);have HX6:=Hi (HXd.out.below di HXd.out.lt);have HU6:=Hi (dm HUd.out (Upd.of_below di fun _=>False) fun _ h=>h.elim);have HB6:=Hi (HBd.out.trans (di.mono HBd.out.size));have hs6:=di.size;clear hb6;(try dsimp only);refine hK.out _ _ di trivial ?_;clear hK K;(try simp only [HT.pS]);refine HT.done V1 ?_;clear hb5 di HR;have HNA:=Hi (name_ (In2 N w wn) lo w6 g ci (m+i) HC6.out VF p hpp 0 V2);go_wp2_with fail
    refine (show Calls Tryz.prog 164 #[.pointer (some ⟨g,0,none⟩),.string ⟨p.toArray⟩,.int .i64 0] w6 _ from HNA.out).mono ?_;rintro e w7 ⟨rfl,hc7,hu7⟩;have HC7:=Hi (q1v hc7 (show wn.heap.size<=w6.heap.size by have:=HSZ.out;omega));have HU7:=Hi (q0i HU6.out hu7 V9);have HB7:=Hi (q0V HB6.out hu7 HN.out);have HX7:=Hi (HX6.out.upd hu7 fun h=>by
     exact V1w)
    have HSZ7:=Hi (show wn.heap.size<=w7.heap.size by have:=hu7.size;have:=HSZ.out;omega);have AL:Hid (inB a (ps.drop (i+1)) { ci with kn:=ci.kn.put p (0,0),en:=ci.en ++ [p] }=res):=Hi HQ.out;clear hc7 hu7;go_wp2_with fail
    go_roundw
    case rel=>exact ⟨i+1,_,V0,V7,HC7,HU7,HB7,HX7,AL,HSZ7⟩
    case measure=>simp [intOf];omega
  ·obtain rfl:i=ps.length:=by omega
   have hq:=HQ.out;rw [List.drop_length] at hq;unfold inB at hq;have AL:=Hi hq;have Ac:=Hi (show Ag N lo w g (.ok ci) (m+ps.length) (.returned (.tuple #[])) wr from ⟨rfl,q2b HC.out V9,HU.out⟩);clear hq;go_wp2_with fail
   first | go_end0 | skip
   all_goals (rw [<-AL.out];first | exact Ac.out | exact bodyPost_ret (results_none rfl _ _ _) rfl Ac.out)
end Nm
end Go.Proofs.YtcgibpdjfgjldaaGreatDoor
