/- DERIVED. RfT, LxN. By an AI agent. -/
import Derived.Test.YtcgibpdjfgjldaaGreatDoorU05
import Derived.RangeFuncNested
set_option linter.unusedVariables false
set_option linter.unusedSimpArgs false
namespace Go.Proofs.YtcgibpdjfgjldaaGreatDoor
namespace Rt
open Go Go.RowKit
section
variable {F : Fence} {n : Nat} {P : Program}
def Ab{β:Type}(T:Nat)(J:β->World->Prop):Prop:=∀ s A B row,J s A->A.grownBy B row->(∀ r,row=some r->r=T)->J s B
def It{α:Type}(F:Fence)(n:Nat)(P:Program)(g:Nat)(lb:Array Value)(encs:α->Array Value)(Kp:World->World->Prop)(T:Nat)(S Sp:List α->Prop)(N:Nat)(w:World):Prop:=
 ∀ (l:Nat) (J Jx:List α->World->Prop) (W:World),Below w.heap.size w W->Ab T J->Ab T Jx ->
  (∀ pre x W1,J pre W1->pre.length < N->YieldAt F (n - 1) P l (encs x) W1 fun e W'=>
   (e = .returned (.bool true)/\J (pre ++ [x]) W'/\Kp W1 W')\/(e = .returned (.bool false)/\Jx (pre ++ [x]) W')) ->
  J [] W ->
  CallsIn F n P g (#[.func (.yield l) #[] #[]] ++ lb) W fun e W'=>(∃ v,e = .returned v)/\((∃ xs,S xs/\J xs W')\/(∃ pre,Sp pre/\Jx pre W'))
def OwnT{β:Type}(T B:Nat)(I:β->World->Prop):Prop:=
 ∀ s W W' row,I s W->W.grownBy W' row->(∀ r,row=some r->r=T\/(B<=r/\∃ o:Obj,W.heap[r]?=some o/\o.isCells=false))->I s W'
def post{α:Type}(Kp:World->World->Prop)(I Ix:List α->World->Prop)(xs:List α)(W:World):Exit->Act->World->Prop
 | .normal,_,W'=>KeepsOthers W W'/\Kp W W'/\I xs W'
 | .ret,_,W'=>KeepsOthers W W'/\Ix xs W'
 | .exit _,_,_=>False
 | .goto _,_,_=>False
 | .panic _,_,_=>False
 | .outgrown,_,_=>False
theorem q35{β:Type}{T B:Nat}{I:β->World->Prop}(h:OwnT T B I){s:β}{W:World}(o:Obj)(hs:I s W):I s (W.alloc o):=
 h s W _ none hs (World.grownBy_alloc W o none) (fun r e=>Vw)
theorem q20{β:Type}{T B:Nat}{I:β->World->Prop}(h:OwnT T B I){s:β}{W:World}{l:Nat}{o:Obj}(o':Obj)(hs:I s W)(hB:B<=l)(hl:W.heap[l]?=some o)(ho:o.isCells=false):I s (W.putObj l o'):=
 h s W _ (some l) hs (grownBy_putObj' W l o') (fun r e=>by cases e;exact .inr ⟨hB,o,hl,ho⟩)
theorem far{A B:World}{row:Option Nat}{T r:Nat}{o:Obj}(hg:A.grownBy B row)(hr:∀ r,row=some r->r=T)(hne:r≠T)(h:A.heap[r]?=some o):B.heap[r]?=some o:=
 (hg.block r (Array.getElem?_eq_some_iff.1 h).1 (fun e=>hne (hr r e.symm))).trans h
theorem range{α:Type}{g:Operand}{ps:Array Tmp}{assign body:Code}{Q:Exit->Act->World->Prop}{a:Act}{w:World}
  (hro:F.round=none) (h1:1<=n) {gf:Nat} {lb:Array Value} (hg:a.eval g = .func (.func gf) #[] lb) (hFg:F.fn gf) (eg:∀ args w,(callFunc gf args).run P w = .ok (.enter gf args) w)
  {encs:α->Array Value} {Kp:World->World->Prop} {T:Nat} {S Sp:List α->Prop} {N:Nat} {w0:World} (hseq:It F (n - 1) P gf lb encs Kp T S Sp N w0) (hT:T < w.heap.size)
  (hKt:∀ {A B C:World},Kp A B->Kp B C->Kp A C) (hKb:∀ (W:World) (l:Nat) (o o':Obj),w.heap.size<=l->W.heap[l]?=some o->o.isCells=false->Kp W (W.putObj l o')) (hb0:Below w0.heap.size w0 w) (hps:∀ x,(encs x).size=ps.size)
  (I Ix:List α->World->Prop) (hI:OwnT T w.heap.size I) (hIx:OwnT T w.heap.size Ix) (h0:I [] w) (a₁:α->Act)
  (hassign:∀ (l:Nat) (x:α) (W:World) (K:Act->World->Prop),K (a₁ x) W ->
   assign.wpIn (F.inRound l) (n - 1 - 1) P (Exit.then K (fun _ _ _=>False)) { tmps:=(ps.zip (encs x)).foldl (fun t (p,v)=>t.setIfInBounds p v) a.tmps,defers:=[] } W)
  (hbody:∀ (l:Nat) (pre:List α) (x:α) (W:World),I pre W->pre.length < N->body.wpIn (F.inRound l) (n - 1 - 1) P (post Kp I Ix (pre ++ [x]) W) (a₁ x) W)
  (hdone:∀ (D:Nat) (xs:List α) (W:World),w.heap.size<=D->S xs->I xs W->W.heap[D]?=some (.deferred (some []))->Q .normal { a with defers:={ target:=.collected D,args:=#[] } :: a.defers } W)
  (hstop:∀ (D:Nat) (pre:List α) (W:World),w.heap.size<=D->Sp pre->Ix pre W->W.heap[D]?=some (.deferred (some []))->Code.ret.wpIn F n P Q { a with defers:={ target:=.collected D,args:=#[] } :: a.defers } W) :
  (Code.rangeFunc g ps assign body).wpIn F n P Q a w:=by
 refine wpIn_rangeFunc fun fn hfn=>?_
 rw [hro];obtain ⟨rec,hrec⟩:∃ rec:LoopState->Option Code->Loop,rec=fun st pe=>{ state:=st,pending:=pe,fn,tmps:=a.tmps,params:=ps,assign,body,defers:=w.heap.size }:=⟨_,rfl⟩
 obtain ⟨L,hL⟩:∃ L,w.heap.size+1=L:=⟨_,rfl⟩;obtain ⟨W1,hW1⟩:∃ W1,(w.alloc (.deferred (some []))).alloc (.loop (rec .ready none))=W1:=⟨_,rfl⟩;have hL1:W1.heap[L]?=some (.loop (rec .ready none)):=by
  rw [<-hW1,<-hL];have:=World.alloc_heap_new (w.alloc (.deferred (some []))) (.loop (rec .ready none));rwa [World.size_alloc] at this
 have hK1:W1.heap[w.heap.size]?=some (.deferred (some [])):=by
  rw [<-hW1];exact (Below.heap_alloc _ _ _ V3).trans (World.alloc_heap_new w _)
 have hI1:I [] W1:=by rw [<-hW1];exact q35 hI _ (q35 hI _ h0)
 have hb1:Below w0.heap.size w0 W1:=by
  rw [<-hW1];exact hb0.trans ((((Below.refl _ w).alloc (Nat.le_refl _) _).alloc V3 _).mono hb0.size)
 have hLT:L≠T:=V0;have hDT:w.heap.size≠T:=V0;have hLD:L≠w.heap.size:=V0;have hBL:w.heap.size<=L:=V0;refine ⟨L,[{ target:=.collected w.heap.size,args:=#[] }],W1,{ target:=.fn (.func gf) lb,args:=#[.func (.yield L) #[] #[]] },W1,gf,#[.func (.yield L) #[] #[]] ++ lb,W1,?_,?_,?_,?_,fun _=>h1,?_⟩
 ·rw [<-hW1,hrec,<-hL];exact run_enterLoop_outer _ _ _ _ _
 ·simp only [resolve,hg];simp [go_sem]
 ·intro f' hf';simp [Target.leads] at hf';subst hf';exact hFg
 ·simp [invoke,go_sem,eg]
 ·have hrow:∀ {A:World} {row:Option Nat},(∀ r,row=some r->r=T)->(∀ r,row=some r->r=T\/(w.heap.size<=r/\∃ o:Obj,A.heap[r]?=some o/\o.isCells=false)):=fun hr r e=>.inl (hr r e)
  refine (hseq L
   (fun pre W=>I pre W/\W.heap[L]?=some (.loop (rec .ready none))/\W.heap[w.heap.size]?=some (.deferred (some [])))
   (fun pre W=>Ix pre W/\W.heap[L]?=some (.loop (rec .done (some .ret)))/\W.heap[w.heap.size]?=some (.deferred (some []))) W1 hb1
   (fun s A B row hs hg' hr=>⟨hI s A B row hs.1 hg' (hrow hr),far hg' hr hLT hs.2.1,far hg' hr hDT hs.2.2⟩)
   (fun s A B row hs hg' hr=>⟨hIx s A B row hs.1 hg' (hrow hr),far hg' hr hLT hs.2.1,far hg' hr hDT hs.2.2⟩) ?_ ⟨hI1,hL1,hK1⟩).mono ?_
  ·rintro pre x W ⟨hi,hl,hk⟩ hlen;have hlt:L < W.heap.size:=(Array.getElem?_eq_some_iff.1 hl).1;have hy:=run_yield (P:=P) (args:=encs x) hl (by rw [hrec];exact hps x);rw [hrec] at hy;refine ⟨fn,_,assign,body,hy,roundIn_of_wpIn hfn (hassign _ x W _ ⟨_,run_beginRound hl (by rw [hrec]),?_⟩)⟩;clear hy;obtain ⟨W2,hW2⟩:∃ W2,W.putObj L (.loop { rec .ready none with state:=.busy })=W2:=⟨_,rfl⟩;have hl2:W2.heap[L]?=some (.loop { rec .ready none with state:=.busy }):=by rw [<-hW2];exact World.putObj_heap_same hlt
   have hk2:W2.heap[w.heap.size]?=some (.deferred (some [])):=by rw [<-hW2];exact (World.putObj_heap_other (Ne.symm hLD)).trans hk
   have hi2:I pre W2:=by rw [<-hW2];exact q20 hI _ hi hBL hl rfl
   have hp2:Kp W W2:=by rw [<-hW2];exact hKb _ _ _ _ hBL hl rfl
   rw [hW2];refine wpIn_mono (hbody _ pre x W2 hi2 hlen) ?_;have fin:∀ (jump:Option Code) (W3:World),KeepsOthers W2 W3->∃ W4,W4=W3.putObj L (.loop (rec (if jump.isNone then .ready else .done) jump))/\W3.heap[L]?=some (.loop { rec .ready none with state:=.busy }) /\
     (Instr.endRound L jump).run P W3 = .ok (.bool jump.isNone) W4/\W4.heap[L]?=some (.loop (rec (if jump.isNone then .ready else .done) jump))/\W4.heap[w.heap.size]?=some (.deferred (some [])):=fun jump W3 hk3=>by
    have hl3:=hk3.same _ _ hl2 rfl;have hr3:=run_endRound (P:=P) jump hl3;refine ⟨_,rfl,hl3,?_,World.putObj_heap_same (Array.getElem?_eq_some_iff.1 hl3).1,(World.putObj_heap_other (Ne.symm hLD)).trans (hk3.same _ _ hk2 rfl)⟩;rw [hrec] at hr3 ⊢;exact hr3
   rintro e a3 W3 hp;cases e with
   | normal=>
    obtain ⟨hk3,hkp3,hi3⟩:=hp;obtain ⟨W4,e4,hl3,hr,hl4,hk4⟩:=fin none W3 hk3;exact ⟨_,_,hr,.inl ⟨rfl,⟨by rw [e4];exact q20 hI _ hi3 hBL hl3 rfl,hl4,hk4⟩,hKt (hKt hp2 hkp3) (by rw [e4];exact hKb _ _ _ _ hBL hl3 rfl)⟩⟩
   | ret=>
    obtain ⟨hk3,hi3⟩:=hp;obtain ⟨W4,e4,hl3,hr,hl4,hk4⟩:=fin (some .ret) W3 hk3;exact ⟨_,_,hr,.inr ⟨rfl,by rw [e4];exact q20 hIx _ hi3 hBL hl3 rfl,hl4,hk4⟩⟩
   | exit id=>exact hp.elim
   | goto t=>exact hp.elim
   | panic ch=>exact hp.elim
   | outgrown=>exact hp.elim
  ·rintro e W2 ⟨⟨v,rfl⟩,(⟨xs,hS,hi,hl,hk⟩ | ⟨pre,hSp,hi,hl,hk⟩)⟩
   ·exact ⟨none,_,V3N,hdone _ xs _ (Nat.le_refl _) hS (q20 hI _ hi hBL hl rfl) ((World.putObj_heap_other (Ne.symm hLD)).trans hk)⟩
   ·exact ⟨some .ret,_,V3N,hstop _ pre _ (Nat.le_refl _) hSp (q20 hIx _ hi hBL hl rfl) ((World.putObj_heap_other (Ne.symm hLD)).trans hk)⟩
end
end Rt
namespace Lx
open Go Go.ChangeShapes Go.WideShapes Go.ChangeAt Go.RowKit Args
def nameB(s:Bs):Bool:=match s with
 | []=>false
 | c :: r=>decide ((c :: r).length<=32) && letB c && !wordB (c :: r) && (c :: r).all (onB true)
theorem q36(s:ByteArray)(h:0 < s.size):s.data.toList=s[0] :: s.data.toList.drop 1:=by
 have:=drop_at s 0 h
 rwa [List.drop_zero] at this
end Lx
end Go.Proofs.YtcgibpdjfgjldaaGreatDoor
