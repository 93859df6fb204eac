/- DERIVED. RfT, LxN, LxPa, LxPb, LxPs, LxSq, LxFi. By an AI agent. -/
import Derived.Test.YtcgibpdjfgjldaaGreatDoorR20
import Derived.Test.YtcgibpdjfgjldaaGreatDoorR19
import Derived.RangeFuncNested
import Derived.Shelf.Strings.SlTrimAscii
import Derived.Lib.Walk
import Derived.Lib.Slices
import Derived.RangeFuncBound
import Derived.RangeFuncCalls
import Derived.RangeFuncLeaves
import Derived.Shelf.RegionOpen
import Derived.TacticsInMore
import Derived.LoopNIn
import Derived.LoopIn
set_option maxRecDepth 100000
set_option maxHeartbeats 4000000
set_option linter.unusedVariables false
set_option linter.unusedSimpArgs false
namespace Go.Proofs.YtcgibpdjfgjldaaGreatDoor
namespace Rt
open Go Go.RowKit
section
variable {F : Fence} {n : Nat} {P : Program}
def Ab{β:Type}(T:Nat)(J:β->World->Prop):Prop:=∀ s A B row,J s A->A.grownBy B row->(∀ r,row=some r->r=T)->J s B
def It{α:Type}(F:Fence)(n:Nat)(P:Program)(g:Nat)(lb:Array Value)(encs:α->Array Value)(Kp:World->World->Prop)(T:Nat)(S Sp:List α->Prop)(N:Nat)(w:World):Prop:=
 ∀ (l:Nat) (J Jx:List α->World->Prop) (W:World),Below w.heap.size w W->Ab T J->Ab T Jx ->
  (∀ pre x W1,J pre W1->pre.length < N->YieldAt F (n - 1) P l (encs x) W1 fun e W'=>
   (e = .returned (.bool true)/\J (pre ++ [x]) W'/\Kp W1 W')\/(e = .returned (.bool false)/\Jx (pre ++ [x]) W')) ->
  J [] W ->
  CallsIn F n P g (#[.func (.yield l) #[] #[]] ++ lb) W fun e W'=>(∃ v,e = .returned v)/\((∃ xs,S xs/\J xs W')\/(∃ pre,Sp pre/\Jx pre W'))
def OwnT{β:Type}(T B:Nat)(I:β->World->Prop):Prop:=
 ∀ s W W' row,I s W->W.grownBy W' row->(∀ r,row=some r->r=T\/(B<=r/\∃ o:Obj,W.heap[r]?=some o/\o.isCells=false))->I s W'
def post{α:Type}(Kp:World->World->Prop)(I Ix:List α->World->Prop)(xs:List α)(W:World):Exit->Act->World->Prop
 | .normal,_,W'=>KeepsOthers W W'/\Kp W W'/\I xs W'
 | .ret,_,W'=>KeepsOthers W W'/\Ix xs W'
 | .exit _,_,_=>False
 | .goto _,_,_=>False
 | .panic _,_,_=>False
 | .outgrown,_,_=>False
theorem q39{β:Type}{T B:Nat}{I:β->World->Prop}(h:OwnT T B I){s:β}{W:World}(o:Obj)(hs:I s W):I s (W.alloc o):=
 h s W _ none hs (World.grownBy_alloc W o none) (fun r e=>VI)
theorem q22{β:Type}{T B:Nat}{I:β->World->Prop}(h:OwnT T B I){s:β}{W:World}{l:Nat}{o:Obj}(o':Obj)(hs:I s W)(hB:B<=l)(hl:W.heap[l]?=some o)(ho:o.isCells=false):I s (W.putObj l o'):=
 h s W _ (some l) hs (grownBy_putObj' W l o') (fun r e=>by cases e;exact .inr ⟨hB,o,hl,ho⟩)
theorem far{A B:World}{row:Option Nat}{T r:Nat}{o:Obj}(hg:A.grownBy B row)(hr:∀ r,row=some r->r=T)(hne:r≠T)(h:A.heap[r]?=some o):B.heap[r]?=some o:=
 (hg.block r (Array.getElem?_eq_some_iff.1 h).1 (fun e=>hne (hr r e.symm))).trans h
theorem range{α:Type}{g:Operand}{ps:Array Tmp}{assign body:Code}{Q:Exit->Act->World->Prop}{a:Act}{w:World}
  (hro:F.round=none) (h1:1<=n) {gf:Nat} {lb:Array Value} (hg:a.eval g = .func (.func gf) #[] lb) (hFg:F.fn gf) (eg:∀ args w,(callFunc gf args).run P w = .ok (.enter gf args) w)
  {encs:α->Array Value} {Kp:World->World->Prop} {T:Nat} {S Sp:List α->Prop} {N:Nat} {w0:World} (hseq:It F (n - 1) P gf lb encs Kp T S Sp N w0) (hT:T < w.heap.size)
  (hKt:∀ {A B C:World},Kp A B->Kp B C->Kp A C) (hKb:∀ (W:World) (l:Nat) (o o':Obj),w.heap.size<=l->W.heap[l]?=some o->o.isCells=false->Kp W (W.putObj l o')) (hb0:Below w0.heap.size w0 w) (hps:∀ x,(encs x).size=ps.size)
  (I Ix:List α->World->Prop) (hI:OwnT T w.heap.size I) (hIx:OwnT T w.heap.size Ix) (h0:I [] w) (a₁:α->Act)
  (hassign:∀ (l:Nat) (x:α) (W:World) (K:Act->World->Prop),K (a₁ x) W ->
   assign.wpIn (F.inRound l) (n - 1 - 1) P (Exit.then K (fun _ _ _=>False)) { tmps:=(ps.zip (encs x)).foldl (fun t (p,v)=>t.setIfInBounds p v) a.tmps,defers:=[] } W)
  (hbody:∀ (l:Nat) (pre:List α) (x:α) (W:World),I pre W->pre.length < N->body.wpIn (F.inRound l) (n - 1 - 1) P (post Kp I Ix (pre ++ [x]) W) (a₁ x) W)
  (hdone:∀ (D:Nat) (xs:List α) (W:World),w.heap.size<=D->S xs->I xs W->W.heap[D]?=some (.deferred (some []))->Q .normal { a with defers:={ target:=.collected D,args:=#[] } :: a.defers } W)
  (hstop:∀ (D:Nat) (pre:List α) (W:World),w.heap.size<=D->Sp pre->Ix pre W->W.heap[D]?=some (.deferred (some []))->Code.ret.wpIn F n P Q { a with defers:={ target:=.collected D,args:=#[] } :: a.defers } W) :
  (Code.rangeFunc g ps assign body).wpIn F n P Q a w:=by
 refine wpIn_rangeFunc fun fn hfn=>?_
 rw [hro];obtain ⟨rec,hrec⟩:∃ rec:LoopState->Option Code->Loop,rec=fun st pe=>{ state:=st,pending:=pe,fn,tmps:=a.tmps,params:=ps,assign,body,defers:=w.heap.size }:=⟨_,rfl⟩
 obtain ⟨L,hL⟩:∃ L,w.heap.size+1=L:=⟨_,rfl⟩;obtain ⟨W1,hW1⟩:∃ W1,(w.alloc (.deferred (some []))).alloc (.loop (rec .ready none))=W1:=⟨_,rfl⟩;have hL1:W1.heap[L]?=some (.loop (rec .ready none)):=by
  rw [<-hW1,<-hL];have:=World.alloc_heap_new (w.alloc (.deferred (some []))) (.loop (rec .ready none));rwa [World.size_alloc] at this
 have hK1:W1.heap[w.heap.size]?=some (.deferred (some [])):=by
  rw [<-hW1];exact (Below.heap_alloc _ _ _ V3).trans (World.alloc_heap_new w _)
 have hI1:I [] W1:=by rw [<-hW1];exact q39 hI _ (q39 hI _ h0)
 have hb1:Below w0.heap.size w0 W1:=by
  rw [<-hW1];exact hb0.trans ((((Below.refl _ w).alloc (Nat.le_refl _) _).alloc V3 _).mono hb0.size)
 have hLT:L≠T:=V0;have hDT:w.heap.size≠T:=V0;have hLD:L≠w.heap.size:=V0;have hBL:w.heap.size<=L:=V0;refine ⟨L,[{ target:=.collected w.heap.size,args:=#[] }],W1,{ target:=.fn (.func gf) lb,args:=#[.func (.yield L) #[] #[]] },W1,gf,#[.func (.yield L) #[] #[]] ++ lb,W1,?_,?_,?_,?_,fun _=>h1,?_⟩
 ·rw [<-hW1,hrec,<-hL];exact run_enterLoop_outer _ _ _ _ _
 ·simp only [resolve,hg];simp [go_sem]
 ·intro f' hf';simp [Target.leads] at hf';subst hf';exact hFg
 ·simp [invoke,go_sem,eg]
 ·have hrow:∀ {A:World} {row:Option Nat},(∀ r,row=some r->r=T)->(∀ r,row=some r->r=T\/(w.heap.size<=r/\∃ o:Obj,A.heap[r]?=some o/\o.isCells=false)):=fun hr r e=>.inl (hr r e)
  refine (hseq L
   (fun pre W=>I pre W/\W.heap[L]?=some (.loop (rec .ready none))/\W.heap[w.heap.size]?=some (.deferred (some [])))
   (fun pre W=>Ix pre W/\W.heap[L]?=some (.loop (rec .done (some .ret)))/\W.heap[w.heap.size]?=some (.deferred (some []))) W1 hb1
   (fun s A B row hs hg' hr=>⟨hI s A B row hs.1 hg' (hrow hr),far hg' hr hLT hs.2.1,far hg' hr hDT hs.2.2⟩)
   (fun s A B row hs hg' hr=>⟨hIx s A B row hs.1 hg' (hrow hr),far hg' hr hLT hs.2.1,far hg' hr hDT hs.2.2⟩) ?_ ⟨hI1,hL1,hK1⟩).mono ?_
  ·rintro pre x W ⟨hi,hl,hk⟩ hlen;have hlt:L < W.heap.size:=(Array.getElem?_eq_some_iff.1 hl).1;have hy:=run_yield (P:=P) (args:=encs x) hl (by rw [hrec];exact hps x);rw [hrec] at hy;refine ⟨fn,_,assign,body,hy,roundIn_of_wpIn hfn (hassign _ x W _ ⟨_,run_beginRound hl (by rw [hrec]),?_⟩)⟩;clear hy;obtain ⟨W2,hW2⟩:∃ W2,W.putObj L (.loop { rec .ready none with state:=.busy })=W2:=⟨_,rfl⟩;have hl2:W2.heap[L]?=some (.loop { rec .ready none with state:=.busy }):=by rw [<-hW2];exact World.putObj_heap_same hlt
   have hk2:W2.heap[w.heap.size]?=some (.deferred (some [])):=by rw [<-hW2];exact (World.putObj_heap_other (Ne.symm hLD)).trans hk
   have hi2:I pre W2:=by rw [<-hW2];exact q22 hI _ hi hBL hl rfl
   have hp2:Kp W W2:=by rw [<-hW2];exact hKb _ _ _ _ hBL hl rfl
   rw [hW2];refine wpIn_mono (hbody _ pre x W2 hi2 hlen) ?_;have fin:∀ (jump:Option Code) (W3:World),KeepsOthers W2 W3->∃ W4,W4=W3.putObj L (.loop (rec (if jump.isNone then .ready else .done) jump))/\W3.heap[L]?=some (.loop { rec .ready none with state:=.busy }) /\
     (Instr.endRound L jump).run P W3 = .ok (.bool jump.isNone) W4/\W4.heap[L]?=some (.loop (rec (if jump.isNone then .ready else .done) jump))/\W4.heap[w.heap.size]?=some (.deferred (some [])):=fun jump W3 hk3=>by
    have hl3:=hk3.same _ _ hl2 rfl;have hr3:=run_endRound (P:=P) jump hl3;refine ⟨_,rfl,hl3,?_,World.putObj_heap_same (Array.getElem?_eq_some_iff.1 hl3).1,(World.putObj_heap_other (Ne.symm hLD)).trans (hk3.same _ _ hk2 rfl)⟩;rw [hrec] at hr3 ⊢;exact hr3
   rintro e a3 W3 hp;cases e with
   | normal=>
    obtain ⟨hk3,hkp3,hi3⟩:=hp;obtain ⟨W4,e4,hl3,hr,hl4,hk4⟩:=fin none W3 hk3;exact ⟨_,_,hr,.inl ⟨rfl,⟨by rw [e4];exact q22 hI _ hi3 hBL hl3 rfl,hl4,hk4⟩,hKt (hKt hp2 hkp3) (by rw [e4];exact hKb _ _ _ _ hBL hl3 rfl)⟩⟩
   | ret=>
    obtain ⟨hk3,hi3⟩:=hp;obtain ⟨W4,e4,hl3,hr,hl4,hk4⟩:=fin (some .ret) W3 hk3;exact ⟨_,_,hr,.inr ⟨rfl,by rw [e4];exact q22 hIx _ hi3 hBL hl3 rfl,hl4,hk4⟩⟩
   | exit id=>exact hp.elim
   | goto t=>exact hp.elim
   | panic ch=>exact hp.elim
   | outgrown=>exact hp.elim
  ·rintro e W2 ⟨⟨v,rfl⟩,(⟨xs,hS,hi,hl,hk⟩ | ⟨pre,hSp,hi,hl,hk⟩)⟩
   ·exact ⟨none,_,V3F,hdone _ xs _ (Nat.le_refl _) hS (q22 hI _ hi hBL hl rfl) ((World.putObj_heap_other (Ne.symm hLD)).trans hk)⟩
   ·exact ⟨some .ret,_,V3F,hstop _ pre _ (Nat.le_refl _) hSp (q22 hIx _ hi hBL hl rfl) ((World.putObj_heap_other (Ne.symm hLD)).trans hk)⟩
end
end Rt
namespace Lx
open Go Go.ChangeShapes Go.WideShapes Go.ChangeAt Go.RowKit Args
def nameB(s:Bs):Bool:=match s with
 | []=>false
 | c :: r=>decide ((c :: r).length<=32) && dx c && !aA (c :: r) && (c :: r).all (onB true)
theorem q3a(s:ByteArray)(h:0 < s.size):s.data.toList=s[0] :: s.data.toList.drop 1:=by
 have:=drop_at s 0 h
 rwa [List.drop_zero] at this
theorem pletter(c:UInt8)(w:World):Calls Tryz.prog 179 #[.int .u8 ((c.toNat:Nat):Int)] w fun e w'=>e = .returned (.bool (dx c))/\w=w':=by
 have hb:dx c=((decide (65<=c.toNat) && decide (c.toNat<=90)) || (decide (97<=c.toNat) && decide (c.toNat<=122))):=rfl;generalize dx c=b at *;generalize c.toNat=k at *;by_cases h1:65<=k
 ·by_cases h2:k<=90
  ·have HB:=Hi (show b=true from V12);have i1:decide ((65:Int)<=(k:Int))=true:=V4;have i2:decide ((k:Int)<=90)=true:=V4;clear hb h1 h2;exact V0o
  ·by_cases h3:97<=k
   ·by_cases h4:k<=122
    ·have HB:=Hi (show b=true by rw [hb];simp [h3,h4]);have i1:decide ((65:Int)<=(k:Int))=true:=V4;have i2:decide ((k:Int)<=90)=false:=V4;have i3:decide ((97:Int)<=(k:Int))=true:=V4;have i4:decide ((k:Int)<=122)=true:=V4;clear hb h1 h2 h3 h4;exact V0o
    ·have HB:=Hi (show b=false from Vu);have i1:decide ((65:Int)<=(k:Int))=true:=V4;have i2:decide ((k:Int)<=90)=false:=V4;have i3:decide ((97:Int)<=(k:Int))=true:=V4;have i4:decide ((k:Int)<=122)=false:=V4;clear hb h1 h2 h3 h4;exact V0o
   ·have HB:=Hi (show b=false from Vu);have i1:decide ((65:Int)<=(k:Int))=true:=V4;have i2:decide ((k:Int)<=90)=false:=V4;have i3:decide ((97:Int)<=(k:Int))=false:=V4;clear hb h1 h2 h3;exact V0o
 ·have HB:=Hi (show b=false from Vu);have i1:decide ((65:Int)<=(k:Int))=false:=V4;have i3:decide ((97:Int)<=(k:Int))=false:=V4;clear hb h1;exact V0o
theorem pdigit(c:UInt8)(w:World):Calls Tryz.prog 183 #[.int .u8 ((c.toNat:Nat):Int)] w fun e w'=>e = .returned (.bool (numB c))/\w=w':=by
 have hb:numB c=(decide (48<=c.toNat) && decide (c.toNat<=57)):=rfl;generalize numB c=b at *;generalize c.toNat=k at *;by_cases h1:48<=k
 ·by_cases h2:k<=57
  ·have HB:=Hi (show b=true from V12);have i1:decide ((48:Int)<=(k:Int))=true:=V4;have i2:decide ((k:Int)<=57)=true:=V4;clear hb h1 h2;exact V1U
  ·have HB:=Hi (show b=false from Vu);have i1:decide ((48:Int)<=(k:Int))=true:=V4;have i2:decide ((k:Int)<=57)=false:=V4;clear hb h1 h2;exact V1U
 ·have HB:=Hi (show b=false from Vu);have i1:decide ((48:Int)<=(k:Int))=false:=V4;clear hb h1;exact V1U
theorem pinNumber(c:UInt8)(w:World):Calls Tryz.prog 184 #[.int .u8 ((c.toNat:Nat):Int)] w fun e w'=>e = .returned (.bool (onB false c))/\w=w':=by
 have HL:=Hi (pletter c);have HD:=Hi (pdigit c);have hb:onB false c=(dx c || numB c):=by unfold onB;simp
 rw [hb];cases hl:dx c with
 | true=>
  rw [hl] at HL;clear hb hl;go_enter Tryz.func184,Tryz.ntmps184;go_wp2_with fail
  refine (HL.out _).mono ?_;exact V01
 | false=>
  rw [hl] at HL;generalize numB c=b at *;clear hb hl;go_enter Tryz.func184,Tryz.ntmps184;go_wp2_with fail
  refine (HL.out _).mono ?_;rintro e w' ⟨rfl,rfl⟩;go_wp2_with fail
  refine (HD.out _).mono ?_;exact V01
theorem pinName(c:UInt8)(w:World):Calls Tryz.prog 182 #[.int .u8 ((c.toNat:Nat):Int)] w fun e w'=>e = .returned (.bool (onB true c))/\w=w':=by
 have HL:=Hi (pinNumber c);have hb:onB true c=(onB false c || decide (c.toNat = 95)):=by
  unfold onB;have:(c==95)=decide (c.toNat = 95):=by
   by_cases h:c.toNat = 95
   ·have:c = 95:=by rw [q4z h];rfl
    subst this;decide
   ·have:c≠95:=q3U h V2;simp [h,this]
  simp [this]
 rw [hb];generalize onB false c=x at *;cases x with
 | true=>
  clear hb;generalize c.toNat=k at *;go_enter Tryz.func182,Tryz.ntmps182;go_wp2_with fail
  refine (HL.out _).mono ?_;exact V01
 | false=>
  clear hb;generalize c.toNat=k at *;by_cases hk:k = 95
  ·have HB:=Hi (show (false || decide (k = 95))=true by simp [hk]);have i1:((k:Int)==95)=true:=V4;exact V3b
  ·have HB:=Hi (show (false || decide (k = 95))=false by simp [hk]);have i1:((k:Int)==95)=false:=V4;exact V3b
theorem prunT(s:ByteArray)(hs:s.size<=140737488351232)(w:World):Calls Tryz.prog 181 #[.string s,.func (.func 182) #[] #[]] w fun e w'=>e = .returned (.string ⟨(s.data.toList.take (aU true s.data.toList)).toArray⟩)/\w=w':=by
 have HC:=Hi pinName;obtain ⟨R,hR⟩:∃ R,aU true s.data.toList=R:=⟨_,rfl⟩;have hRl:R<=s.size:=by have:=q1r true s.data.toList;rw [hR] at this;simpa using this
 have hex:(⟨(s.data.toList.take R).toArray⟩:ByteArray)=s.extract 0 R:=by rw [Lib.extract_eq];simp
 rw [hR,hex];have HR:=Hi hR;clear hR hex;go_enter Tryz.func181,Tryz.ntmps181;go_wp2_with fail
 go_loop [5] (fun vi=>∃ k:Nat,k<=s.size/\vi = .int .i64 k/\Hid (k+aU true (s.data.toList.drop k)=R)) (fun vi=>s.size - (intOf vi).toNat)
 case atStart=>exact ⟨0,V0,rfl,Hi (by rw [List.drop_zero,HR.out];omega)⟩
 case round=>
  obtain ⟨k,hk,rfl,HQ⟩:=hrel;by_cases hlt:k < s.size
  ·have hd:=drop_at s k hlt;have hq:=HQ.out;rw [hd,q0g] at hq;have hc:=HC.out s[k];cases ho:onB true s[k] with
   | true=>
    rw [ho,if_pos rfl] at hq;rw [ho] at hc;have HK:=Hi hc;have HN:=Hi (show k+1+aU true (s.data.toList.drop (k+1))=R from V0);exact V3r
   | false=>
    exact V2B
  ·have hq:=HQ.out;rw [q0P s k V0] at hq;have HN:=Hi (show R=k by have:aU true [] = 0:=rfl;omega);clear hq HQ;exact V2L
theorem prunF(s:ByteArray)(hs:s.size<=140737488351232)(w:World):Calls Tryz.prog 181 #[.string s,.func (.func 184) #[] #[]] w fun e w'=>e = .returned (.string ⟨(s.data.toList.take (aU false s.data.toList)).toArray⟩)/\w=w':=by
 have HC:=Hi pinNumber;obtain ⟨R,hR⟩:∃ R,aU false s.data.toList=R:=⟨_,rfl⟩;have hRl:R<=s.size:=by have:=q1r false s.data.toList;rw [hR] at this;simpa using this
 have hex:(⟨(s.data.toList.take R).toArray⟩:ByteArray)=s.extract 0 R:=by rw [Lib.extract_eq];simp
 rw [hR,hex];have HR:=Hi hR;clear hR hex;go_enter Tryz.func181,Tryz.ntmps181;go_wp2_with fail
 go_loop [5] (fun vi=>∃ k:Nat,k<=s.size/\vi = .int .i64 k/\Hid (k+aU false (s.data.toList.drop k)=R)) (fun vi=>s.size - (intOf vi).toNat)
 case atStart=>exact ⟨0,V0,rfl,Hi (by rw [List.drop_zero,HR.out];omega)⟩
 case round=>
  obtain ⟨k,hk,rfl,HQ⟩:=hrel;by_cases hlt:k < s.size
  ·have hd:=drop_at s k hlt;have hq:=HQ.out;rw [hd,q0g] at hq;have hc:=HC.out s[k];cases ho:onB false s[k] with
   | true=>
    rw [ho,if_pos rfl] at hq;rw [ho] at hc;have HK:=Hi hc;have HN:=Hi (show k+1+aU false (s.data.toList.drop (k+1))=R from V0);exact V3r
   | false=>
    exact V2B
  ·have hq:=HQ.out;rw [q0P s k V0] at hq;have HN:=Hi (show R=k by have:aU false [] = 0:=rfl;omega);clear hq HQ;exact V2L
theorem pword(s:ByteArray)(w:World):Calls Tryz.prog 201 #[.string s] w fun e w'=>e = .returned (.bool (aA s.data.toList))/\w=w':=by
 cases h0:(s.toList==([115,101,99,114,101,116]:Bs)) with
 | true=>
  have HB:=Hi (show aA s.data.toList=true by rw [<-ByteArray.toList_eq,eq_of_beq h0];decide);exact VB
 | false=>
  cases h1:(s.toList==([112,117,98,108,105,99]:Bs)) with
  | true=>
   have HB:=Hi (show aA s.data.toList=true by rw [<-ByteArray.toList_eq,eq_of_beq h1];decide);exact VB
  | false=>
   cases h2:(s.toList==([111,117,116]:Bs)) with
   | true=>
    have HB:=Hi (show aA s.data.toList=true by rw [<-ByteArray.toList_eq,eq_of_beq h2];decide);exact VB
   | false=>
    cases h3:(s.toList==([115,104,111,119]:Bs)) with
    | true=>
     have HB:=Hi (show aA s.data.toList=true by rw [<-ByteArray.toList_eq,eq_of_beq h3];decide);exact VB
    | false=>
     cases h4:(s.toList==([102,111,114]:Bs)) with
     | true=>
      have HB:=Hi (show aA s.data.toList=true by rw [<-ByteArray.toList_eq,eq_of_beq h4];decide);exact VB
     | false=>
      cases h5:(s.toList==([105,110]:Bs)) with
      | true=>
       have HB:=Hi (show aA s.data.toList=true by rw [<-ByteArray.toList_eq,eq_of_beq h5];decide);exact VB
      | false=>
       cases h6:(s.toList==([102,110]:Bs)) with
       | true=>
        have HB:=Hi (show aA s.data.toList=true by rw [<-ByteArray.toList_eq,eq_of_beq h6];decide);exact VB
       | false=>
        have HB:=Hi (show aA s.data.toList=false by
         have hx:∀ l:Bs,(s.toList==l)=false->¬ s.data.toList=l:=fun l h e=>by
          rw [beq_eq_false_iff_ne] at h;exact h (by rw [<-e,ByteArray.toList_eq])
         have g0:=hx _ h0;have g1:=hx _ h1;have g2:=hx _ h2;have g3:=hx _ h3;have g4:=hx _ h4;have g5:=hx _ h5;have g6:=hx _ h6;unfold aA words7;rw [List.contains_eq_mem,decide_eq_false_iff_not];simp only [List.mem_cons,List.not_mem_nil,or_false];rintro (h | h | h | h | h | h | h)
         ·exact g0 h
         ·exact g1 h
         ·exact g2 h
         ·exact g3 h
         ·exact g4 h
         ·exact g5 h
         ·exact g6 h)
        exact VB
theorem run_all{S:Bs}(h:S.all (onB true)=true):S.take (aU true S)=S:=by
 have:aU true S=S.length:=by
  induction S with
  | nil=>rfl
  | cons c r ih=>
   rw [List.all_cons,Bool.and_eq_true] at h;rw [q0g,if_pos h.1,ih h.2];rfl
 rw [this,List.take_length]
theorem all_run{S:Bs}(h:S.take (aU true S)=S):S.all (onB true)=true:=by
 have key:∀ S:Bs,(S.take (aU true S)).all (onB true)=true:=fun S=>by
  exact V33
 have:=key S
 rwa [h] at this
theorem pname(s:ByteArray)(hs:s.size<=140737488351232)(w:World) :
  Calls Tryz.prog 202 #[.string s] w fun e w'=>e = .returned (.bool (nameB s.data.toList))/\w=w':=by
 obtain ⟨b,hb⟩:∃ b,nameB s.data.toList=b:=⟨_,rfl⟩;rw [hb];by_cases h0:s.size = 0
 ·have hsn:s=⟨#[]⟩:=by
   apply ByteArray.ext;exact Array.eq_empty_of_size_eq_zero h0
  subst hsn;have HB:b=false:=hb.symm;subst HB;clear hb;go_enter Tryz.func202,Tryz.ntmps202;go_wp2_with fail
  go_ret;exact ⟨rfl,rfl⟩
 ·have h0':0 < s.size:=by omega
  have hcs:=q3a s h0';have hne:(s.toList==[])=false:=by rw [ByteArray.toList_eq,hcs];rfl
  have hl:s.data.toList.length=s.size:=V3;have hw:=pword s w;have hlt:=pletter s[0] w;have hrn:=prunT s hs w;have hb':b=(decide (s.size<=32) && dx s[0] && !aA s.data.toList && s.data.toList.all (onB true)):=by
   rw [<-hb,<-hl];unfold nameB;rw [hcs]
  clear hb;cases hL:dx s[0] with
  | false=>
   rw [hL] at hlt hb';have HB:b=false:=by rw [hb'];simp
   subst HB;have HL:=Hi hlt;clear hlt hb' hw hrn hcs hl hL h0;go_enter Tryz.func202,Tryz.ntmps202;go_wp2_with fail
   refine HL.out.mono ?_;exact V01
  | true=>
   rw [hL] at hlt hb';have HL:=Hi hlt;cases hA:s.data.toList.all (onB true) with
   | false=>
    rw [hA] at hb';have HB:b=false:=by rw [hb'];simp
    subst HB;have htn:((⟨(s.data.toList.take (aU true s.data.toList)).toArray⟩:ByteArray).toList==s.toList)=false:=by
     rw [beq_eq_false_iff_ne,ByteArray.toList_eq,ByteArray.toList_eq];intro h;have:=all_run h;rw [hA] at this;cases this
    generalize (⟨(s.data.toList.take (aU true s.data.toList)).toArray⟩:ByteArray)=t at *;have HR:=Hi hrn;exact V32
   | true=>
    rw [hA] at hb';rw [run_all hA,show (⟨s.data.toList.toArray⟩:ByteArray)=s from rfl] at hrn;have HR:=Hi hrn;by_cases h32:s.size<=32
    ·have HB:b = !aA s.data.toList:=by rw [hb'];simp [h32]
     have i1:decide ((s.size:Int)<=32)=true:=V4;generalize aA s.data.toList=x at *;subst HB;have HW:=Hi hw;clear hlt hb' hw hrn hcs hl hL h0 hA;go_enter Tryz.func202,Tryz.ntmps202;go_wp2_with fail
     refine HL.out.mono ?_;rintro e w' ⟨rfl,rfl⟩;go_wp2_with fail
     refine HR.out.mono ?_;rintro e w' ⟨rfl,rfl⟩;go_wp2_with fail
     refine HW.out.mono ?_;exact V01
    ·have HB:b=false:=by rw [hb'];simp;omega
     have i1:decide ((s.size:Int)<=32)=false:=V4;subst HB;exact V32
def FtV(o:Option (Nat×Bs)):Value:=match o with
 | some (k,t)=>.tuple #[.agg #[.int .i64 (k:Int),.string ⟨t.toArray⟩,.int .i64 0],.int .i64 0]
 | none=>.tuple #[.agg #[.int .i64 0,.string ⟨#[]⟩,.int .i64 0],.int .i64 100]
def namedL(S:Bs):Option (Nat×Bs):=if aA S=true then some (3,S) else if nameB S=true then some (1,S) else none
theorem loadT{w:World}{g:Nat}{a b c:Value}(h:Aa w g 63 #[a,b,c]):(loadVar 63 ⟨g,0,none⟩).run Tryz.prog w = .ok (.agg #[a,b,c]) w:=
 run_loadVar_row w g _ _ _ (0,0) _ h Tryz.underlying63 rfl V1
theorem pnamed(s:ByteArray)(hs:s.size<=100000)(w:World) :
  Calls Tryz.prog 180 #[.string s] w fun e w'=>e = .returned (FtV (namedL s.data.toList))/\Below w.heap.size w w':=by
 have hw:=pword s;have hn:=pname s V0;cases hW:aA s.data.toList with
 | true=>
  rw [hW] at hw;have HV:=Hi (show FtV (namedL s.data.toList) = .tuple #[.agg #[.int .i64 3,.string s,.int .i64 0],.int .i64 0] by unfold namedL;rw [if_pos hW];rfl);generalize FtV (namedL s.data.toList)=V at *;have HW:=Hi hw;clear hw hn hW;go_enter Tryz.func180,Tryz.ntmps180;go_wp2_with fail
  refine (HW.out _).mono ?_;rintro e w' ⟨rfl,rfl⟩;go_wp2_with fail
  refine bodyPost_ret (q36 rfl _ _ w.heap.size _ rfl (loadT (Aa.new _ _ _))) rfl ?_;exact ⟨(congrArg Ending.returned HV.out).symm,(Below.refl _ _).alloc (Nat.le_refl _) _⟩
 | false=>
  rw [hW] at hw;cases hN:nameB s.data.toList with
  | false=>
   rw [hN] at hn;have HV:=Hi (show FtV (namedL s.data.toList) = .tuple #[.agg #[.int .i64 0,.string ⟨#[]⟩,.int .i64 0],.int .i64 100] by unfold namedL;rw [if_neg (by rw [hW];decide),if_neg (by rw [hN];decide)];rfl);exact V2k
  | true=>
   rw [hN] at hn;have HV:=Hi (show FtV (namedL s.data.toList) = .tuple #[.agg #[.int .i64 1,.string s,.int .i64 0],.int .i64 0] by unfold namedL;rw [if_neg (by rw [hW];decide),if_pos hN];rfl);exact V2k
theorem trim(s:ByteArray)(w:World):Calls Tryz.prog 176 #[.string s,.string ⟨#[32,9,10]⟩] w fun e w'=>e = .returned (.string ⟨(s.data.toList.dropWhile (blk3.contains ·)).toArray⟩)/\Below w.heap.size w w':=
 Any.strings_TrimLeft_laid Tryz.lays161 V1 s ⟨#[32,9,10]⟩ w V2 (fun j b hj=>by
  have hm:=List.mem_of_getElem? hj;simp at hm;rcases hm with rfl | rfl | rfl <;> decide)
theorem q8y:∀ (r:Bs),(Lib.indexByte r 10 = -1/\aft r=[])\/∃ i:Nat,Lib.indexByte r 10=i/\i < r.length/\aft r=r.drop (i+1)
 | []=>.inl ⟨rfl,rfl⟩
 | d :: r=>by
  have e:Lib.indexByte (d :: r) 10=if d==10 then 0 else if Lib.indexByte r 10==-1 then -1 else Lib.indexByte r 10+1:=rfl
  have e2:aft (d :: r)=if d==10 then r else aft r:=rfl
  by_cases hd:(d==10)=true
  ·exact .inr ⟨0,by rw [e,if_pos hd];rfl,V3,by rw [e2,if_pos hd];rfl⟩
  ·rcases q8y r with ⟨h1,h2⟩ | ⟨i,h1,h2,h3⟩
   ·exact .inl ⟨by rw [e,if_neg hd,h1];rfl,by rw [e2,if_neg hd,h2]⟩
   ·refine .inr ⟨i+1,?_,V4,by rw [e2,if_neg hd,h3];rfl⟩;rw [e,if_neg hd,h1,if_neg (by rw [beq_iff_eq];omega)];push_cast;rfl
theorem cutlite(s:ByteArray)(hs:s.size<=100000)(w:World):Calls Tryz.prog 200 #[.string s,.string ⟨#[10]⟩] w fun e w'=>(∃ a b,e = .returned (.tuple #[.string a,.string ⟨(aft s.data.toList).toArray⟩,.bool b]))/\∃ n,w'=w.drewN n:=by
 have hx:=Tryz.stringslite_Index_one s 10 w;rcases q8y s.data.toList with ⟨h1,h2⟩ | ⟨i,h1,h2,h3⟩
 ·rw [h1] at hx;rw [h2];have HX:=Hi hx;clear hx h1 h2;go_enter Tryz.func200,Tryz.ntmps200;go_wp2_with fail
  refine HX.out.mono ?_;rintro e w' ⟨rfl,rfl⟩;go_wp2_with fail
  go_ret3
  exact ⟨⟨_,_,rfl⟩,0,rfl⟩
 ·rw [h1] at hx;have hsz:s.data.toList.length=s.size:=V3;have hil:i+1<=s.size:=V0;have hex:(⟨(aft s.data.toList).toArray⟩:ByteArray)=s.extract (i+1) s.size:=by
   rw [h3,Lib.extract_eq]
   congr 2
   rw [List.take_of_length_le];rw [List.length_drop];simp
  rw [hex];have HX:=Hi hx;clear hx h1 h2 h3 hex;go_enter Tryz.func200,Tryz.ntmps200;go_wp2_with fail
  refine HX.out.mono ?_;rintro e w' ⟨rfl,rfl⟩;go_wp2_with fail
  go_quiet (fail)
  go_wp2_with fail
  go_ret3
  exact ⟨⟨_,_,rfl⟩,nq,rfl⟩
theorem cut(s:ByteArray)(hs:s.size<=100000)(w:World):Calls Tryz.prog 178 #[.string s,.string ⟨#[10]⟩] w fun e w'=>(∃ a b,e = .returned (.tuple #[.string a,.string ⟨(aft s.data.toList).toArray⟩,.bool b]))/\∃ n,w'=w.drewN n:=by
 have HX:=Hi (cutlite s hs w);generalize (⟨(aft s.data.toList).toArray⟩:ByteArray)=t at *;go_enter Tryz.func178,Tryz.ntmps178;go_wp2_with fail
 refine HX.out.mono ?_;rintro e w' ⟨⟨a,b,rfl⟩,n,rfl⟩;go_wp2_with fail
 go_ret3
 exact ⟨⟨_,_,rfl⟩,n,rfl⟩
def szOf:Value->Nat
 | .string t=>t.size
 | _=>0
theorem q1x(l:Bs):(⟨l.toArray⟩:ByteArray).size=l.length:=by show l.toArray.size=_;simp
theorem has(s p:ByteArray)(w:World):Calls Tryz.prog 177 #[.string s,.string p] w fun e w'=>e = .returned (.bool (p.data.toList.isPrefixOf s.data.toList))/\w=w':=
 (Tryz.strings_HasPrefix s p w).mono fun e w' ⟨h1,h2⟩=>⟨h1,h2.symm⟩
def PsI(R:Bs)(n:Nat)(t:ByteArray):Prop:=(∃ r:Bs,r.dropWhile (blk3.contains ·)=t.data.toList)/\aZ t.data.toList=R/\t.size<=n
theorem passed(s:ByteArray)(hs:s.size<=100000)(w:World):Calls Tryz.prog 156 #[.string s] w fun e w'=>e = .returned (.string ⟨(aZ s.data.toList).toArray⟩)/\Below w.heap.size w w':=by
 obtain ⟨R,hR⟩:∃ R,aZ s.data.toList=R:=⟨_,rfl⟩;rw [hR];have ht:=trim s w;have hdl:(s.data.toList.dropWhile (blk3.contains ·)).length<=s.size:=by
  have:=(List.dropWhile_sublist (l:=s.data.toList) (blk3.contains ·)).length_le;simpa using this
 have hI:PsI R 100000 ⟨(s.data.toList.dropWhile (blk3.contains ·)).toArray⟩:=⟨⟨_,rfl⟩,by show aZ (s.data.toList.dropWhile (blk3.contains ·))=R;rw [q2A,hR],V0v⟩;generalize (⟨(s.data.toList.dropWhile (blk3.contains ·)).toArray⟩:ByteArray)=t0 at *;have HT:=Hi ht;have HI:=Hi hI;clear ht hI hR hdl;go_enter Tryz.func156,Tryz.ntmps156;go_wp2_with fail
 refine HT.out.mono ?_;rintro e w1 ⟨rfl,hb1⟩;have HB1:=Hi hb1;clear hb1;go_wp2_with fail
 go_loopw [0] (fun vi wr=>∃ t:ByteArray,vi = .string t/\Hid (PsI R 100000 t)/\Hid (Below w.heap.size w wr)) (fun vi _=>szOf vi)
 case atStart=>exact ⟨t0,rfl,HI,HB1⟩
 case round=>
  obtain ⟨t,rfl,HP,HW⟩:=hrel;obtain ⟨⟨r,hr⟩,hrest,hsz⟩:=HP.out;have hsw:=HW.out.size;cases hp:([47,47]:Bs).isPrefixOf t.data.toList with
  | false=>
   have hh:=has t ⟨#[47,47]⟩ wr;rw [show (⟨#[47,47]⟩:ByteArray).data.toList=[47,47] from rfl,hp] at hh;have hE:=q5J hr hp;have HH:=Hi hh;have HE:=Hi (show (⟨R.toArray⟩:ByteArray)=t by rw [<-hrest,hE]);clear hh hE hr hrest hp HP;go_wp2_with fail
   refine HH.out.mono ?_;rintro e w' ⟨rfl,rfl⟩;go_wp2_with fail
   go_ret;exact ⟨by rw [HE.out] <;> rfl,HW.out⟩
  | true=>
   have hh:=has t ⟨#[47,47]⟩ wr;rw [show (⟨#[47,47]⟩:ByteArray).data.toList=[47,47] from rfl,hp] at hh;obtain ⟨c1,c2⟩:=rest_cm hp;have hcut:=cut t hsz wr;have htl:t.data.toList.length=t.size:=V3;obtain ⟨q,hq⟩:∃ q:ByteArray,(⟨(aft t.data.toList).toArray⟩:ByteArray)=q:=⟨_,rfl⟩;have hqd:q.data.toList=aft t.data.toList:=by rw [<-hq]
   have hqs:q.size=(aft t.data.toList).length:=by rw [<-hq,q1x]
   rw [hq] at hcut;have htr:=fun W=>trim q W
   have hdl:(q.data.toList.dropWhile (blk3.contains ·)).length<=q.size:=by
    have:=(List.dropWhile_sublist (l:=q.data.toList) (blk3.contains ·)).length_le;simpa using this
   have hI:PsI R 100000 ⟨(q.data.toList.dropWhile (blk3.contains ·)).toArray⟩:=⟨⟨_,rfl⟩,by show aZ (q.data.toList.dropWhile (blk3.contains ·))=R;rw [q2A,hqd,<-c1,hrest],V0v⟩;have hms:(⟨(q.data.toList.dropWhile (blk3.contains ·)).toArray⟩:ByteArray).size < t.size:=V0v;generalize (⟨(q.data.toList.dropWhile (blk3.contains ·)).toArray⟩:ByteArray)=t2 at *;have HH:=Hi hh;have HC:=Hi hcut;have HT2:=Hi htr;have HI2:=Hi hI;clear hh hcut htr hI hr hrest hp HP c1 c2 hq hqd hqs hdl htl;go_wp2_with fail
   refine HH.out.mono ?_;rintro e w' ⟨rfl,rfl⟩;go_wp2_with fail
   refine HC.out.mono ?_;rintro e w' ⟨⟨a,b,rfl⟩,n,rfl⟩;have HW2:=Hi (show Below w.heap.size w (wr.drewN n) from q0l HW.out n);have hsw2:w.heap.size<=(wr.drewN n).heap.size:=hsw;generalize wr.drewN n=w2 at *;clear HC HH;go_wp2_with fail
   refine (HT2.out _).mono ?_;rintro e w3 ⟨rfl,hb3⟩;have HW3:=Hi (show Below w.heap.size w w3 from HW2.out.trans (hb3.mono hsw2));clear hb3;go_wp2_with fail
   go_round
   case rel=>exact ⟨t2,rfl,HI2,HW3⟩
   case measure=>exact hms
end Lx
namespace Lx
open Go Go.ChangeShapes Go.WideShapes Go.ChangeAt Go.RowKit Go.Shelf Args
section
attribute [local go_sem] Oper.semAt_some
theorem ext_to(R:Bs)(i:Nat):(⟨R.toArray⟩:ByteArray).extract 0 i=⟨(R.take i).toArray⟩:=by
 apply ByteArray.ext;apply Array.toList_inj.1;rw [ByteArray.data_extract];simp
theorem q7O(R:Bs)(i:Nat):(⟨R.toArray⟩:ByteArray).extract i R.length=⟨(R.drop i).toArray⟩:=by
 apply ByteArray.ext;apply Array.toList_inj.1;rw [ByteArray.data_extract];simp;exact List.take_of_length_le (by rw [List.length_drop];exact Nat.le_refl _)
theorem q7P(R:Bs)(i:Nat)(h:i<=R.length)(W:World):(Instr.slice 9 (.string ⟨R.toArray⟩) none (some (.int .i64 (i:Int))) none).run Tryz.prog W = .ok (.string ⟨(R.take i).toArray⟩) W:=by
 have hs:=q1x R;rw [run_slice_string_to_if W 9 ⟨R.toArray⟩ .i64 i Tryz.underlying9,if_pos ⟨V0,V0⟩,Int.toNat_natCast,ext_to]
theorem q3b(R:Bs)(i:Nat)(h:i<=R.length)(W:World):(Instr.slice 9 (.string ⟨R.toArray⟩) (some (.int .i64 (i:Int))) none none).run Tryz.prog W = .ok (.string ⟨(R.drop i).toArray⟩) W:=by
 have hs:=q1x R;rw [run_slice_string_from_if W 9 ⟨R.toArray⟩ .i64 i Tryz.underlying9,if_pos ⟨V0,V0⟩,Int.toNat_natCast,hs,q7O]
def KB(B:Nat)(W W':World):Prop:=∀ k,B<=k->k<=B+2->W'.heap[k]?=W.heap[k]?
theorem kb_t{B:Nat}{X Y Z:World}(h:KB B X Y)(k:KB B Y Z):KB B X Z:=fun i h1 h2=>(k i h1 h2).trans (h i h1 h2)
theorem kb_b{B:Nat}{w:World}(hn:B+2 < w.heap.size)(W:World)(l:Nat)(o o':Obj)(hl:w.heap.size<=l)(h:W.heap[l]?=some o)(_:o.isCells=false):KB B W (W.putObj l o'):=
 fun k _ h2=>(grownBy_putObj' W l o').block k (by have:=(Array.getElem?_eq_some_iff.1 h).1;omega) (fun e=>Vb)
def strAt(w:World)(B:Nat):Nat:=match w.cell? ⟨B,0,none⟩ with | some v=>szOf v | none=>0
theorem q5b{w:World}{B:Nat}{R:Bs}(h:w.cell? ⟨B,0,none⟩=some (.string ⟨R.toArray⟩)):strAt w B=R.length:=by unfold strAt;rw [h];exact q1x R
theorem split1(n:Nat)(hn:1<=n)(l B:Nat)(c:UInt8)(L:Bs)(J Jx:List Bs->World->Prop)(hJ:Rt.Ab B J)
  (hY:∀ pre x W,J pre W->pre.length < (splitB c L).length->YieldAt Fence.wide (n - 1) Tryz.prog l #[.string ⟨x.toArray⟩] W fun e W'=>
   (e = .returned (.bool true)/\J (pre ++ [x]) W'/\KB B W W')\/(e = .returned (.bool false)/\Jx (pre ++ [x]) W'))
  (W:World) (hL:L.length<=1000000) (hS:Aa W B 9 #[.string ⟨L.toArray⟩]) (hE:W.cell? ⟨B+1,0,none⟩=some (.string ⟨#[c]⟩)) (hZ:W.cell? ⟨B+2,0,none⟩=some (.int .i64 0)) (h0:J [] W) :
  CallsIn Fence.wide n Tryz.prog 211 #[.func (.yield l) #[] #[],.pointer (some ⟨B+1,0,none⟩),.pointer (some ⟨B,0,none⟩),.pointer (some ⟨B+2,0,none⟩)] W fun e W'=>(∃ v,e = .returned v) /\
   ((∃ ys,ys=splitB c L/\J ys W')\/(∃ pre,pre <+: splitB c L/\Jx pre W')):=by
 refine callsIn_of_wp Tryz.func211 rfl trivial ?_ rfl;simp only [Tryz.ntmps211,List.size_toArray,List.length_cons,List.length_nil,Nat.reduceAdd,Nat.reduceSub,Array.replicate_succ,Array.replicate_zero,List.push_toArray,List.append_toArray,List.nil_append,List.cons_append];have HJ:=Hi hJ;have HY:=Hi hY;have HS:=Hi hS;have HE:=Hi hE;have HZ:=Hi hZ;have hIX:=Hi (fun R:Bs=>Tryz.strings_Index_one ⟨R.toArray⟩ c);clear hJ hY hS
 gi_wp2
 gi_loopw [7] (fun vr wr=>∃ (pre:List Bs) (R:Bs),vr=vr/\R.length<=1000000/\Hid (pre ++ splitB c R=splitB c L/\J pre wr/\Aa wr B 9 #[.string ⟨R.toArray⟩]/\wr.cell? ⟨B+1,0,none⟩=some (.string ⟨#[c]⟩)/\wr.cell? ⟨B+2,0,none⟩=some (.int .i64 0)))
  (fun _ wr=>strAt wr B)
 case atStart=>exact ⟨[],L,rfl,hL,Hi ⟨rfl,h0,HS.out,HE.out,HZ.out⟩⟩
 case round=>
  obtain ⟨pre,R,_,hR,HH⟩:=hrel;have c0:wr.cell? ⟨B,0,none⟩=some (.string ⟨R.toArray⟩):=HH.out.2.2.1.cell 0;have c1:=HH.out.2.2.2.1;have c2:=HH.out.2.2.2.2;have f0:=HH.out.2.2.1.frozen 0;rcases split_at c R with ⟨h1,h2⟩ | ⟨i,h1,h2,h3⟩
  ·have hx:=hIX.out R wr;rw [h1] at hx;have HX:=Hi hx;have hpre:=HH.out.1;rw [h2] at hpre;have HP:=Hi hpre;obtain ⟨fn,tmps,assign,body,hy,hRn⟩:=HY.out pre R wr HH.out.2.1 (by rw [<-hpre];simp);clear hx h1 h2 hpre
   gi_wp2_with (refine ⟨trivial,?_⟩;gi_at_call 212;refine (callsIn_wide.2 HX.out).mono ?_;rintro e w' ⟨rfl,rfl⟩)
   refine hRn.mono ?_;rintro e W3 (⟨rfl,hJ3,hk3⟩ | ⟨rfl,hJx3⟩)
   ·gi_wp2
    go_end0
    exact ⟨⟨_,rfl⟩,.inl ⟨_,HP.out,hJ3⟩⟩
   ·gi_wp2
    go_end0
    exact ⟨⟨_,rfl⟩,.inr ⟨_,⟨[],by rw [List.append_nil];exact HP.out⟩,hJx3⟩⟩
  ·have hx:=hIX.out R wr;rw [h1] at hx;have HX:=Hi hx;have hpre:=HH.out.1;rw [h3] at hpre;have HP:=Hi hpre;obtain ⟨fn,tmps,assign,body,hy,hRn⟩:=HY.out pre (R.take i) wr HH.out.2.1 (by rw [<-hpre];simp);have hsl:=q7P R i V0 wr;have hsf:∀ W,(Instr.slice 9 (.string ⟨R.toArray⟩) (some (.int .i64 ((i:Int)+1))) none none).run Tryz.prog W = .ok (.string ⟨(R.drop (i+1)).toArray⟩) W:=fun W=>by
    have:=q3b R (i+1) V0 W
    push_cast at this
    exact this
   have HSF:=Hi hsf;have hdl:(R.drop (i+1)).length < R.length:=V0r;have i1:decide ((i:Int) < 0)=false:=V3;clear hx h1 hpre h3 hsf
   gi_wp2_with (refine ⟨trivial,?_⟩;gi_at_call 212;refine (callsIn_wide.2 HX.out).mono ?_;rintro e w' ⟨rfl,rfl⟩)
   refine hRn.mono ?_;rintro e W3 (⟨rfl,hJ3,hk3⟩ | ⟨rfl,hJx3⟩)
   ·have b3:Aa W3 B 9 #[.string ⟨R.toArray⟩]:=(hk3 B (Nat.le_refl _) V0).trans HH.out.2.2.1;have d0:W3.cell? ⟨B,0,none⟩=some (.string ⟨R.toArray⟩):=b3.cell 0;have d1:W3.cell? ⟨B+1,0,none⟩=some (.string ⟨#[c]⟩):=(World.cell?_of_block (a:=⟨B+1,0,none⟩) (hk3 (B+1) V0 V0)).trans c1;have d2:W3.cell? ⟨B+2,0,none⟩=some (.int .i64 0):=(World.cell?_of_block (a:=⟨B+2,0,none⟩) (hk3 (B+2) V0 V0)).trans c2;have g0:=b3.frozen 0;have hs3:=HSF.out W3;have HB3:=Hi b3;have hJ4:=HJ.out _ W3 _ (some B) hJ3 (grownBy_setCell' W3 B (.string ⟨(R.drop (i+1)).toArray⟩)) (fun r e=>VG);have HJ4:=Hi hJ4;clear hJ3 hk3 b3 hJ4
    gi_wp2
    go_roundw
    case rel=>
     refine ⟨pre ++ [R.take i],R.drop (i+1),trivial,V0,Hi ⟨?_,HJ4.out,HB3.out.set 0 _,?_,?_⟩⟩
     ·rw [<-HP.out];simp
     ·exact (World.cell?_setCell_other W3 ⟨B,0,none⟩ ⟨B+1,0,none⟩ _ V3).trans d1
     ·exact (World.cell?_setCell_other W3 ⟨B,0,none⟩ ⟨B+2,0,none⟩ _ V3).trans d2
    case measure=>
     rw [q5b c0,q5b ((HB3.out.set 0 (.string ⟨(R.drop (i+1)).toArray⟩)).cell 0)];exact hdl
   ·gi_wp2
    refine bodyPost_ret (results_none rfl _ _ _) rfl ?_;exact ⟨⟨_,rfl⟩,.inr ⟨_,⟨splitB c (R.drop (i+1)),by rw [<-HP.out];simp⟩,hJx3⟩⟩
def sqW(L:Bs)(c:UInt8)(w:World):World:=((w.alloc (.cells #[.string ⟨L.toArray⟩] 9)).alloc (.cells #[.string ⟨#[c]⟩] 9)).alloc (.cells #[.int .i64 0] 3)
def sqC(B:Nat):Array Value:=#[.pointer (some ⟨B+1,0,none⟩),.pointer (some ⟨B,0,none⟩),.pointer (some ⟨B+2,0,none⟩)]
theorem q7Q(n:Nat)(hn:1<=n)(B:Nat)(c:UInt8)(L:Bs)(hL:L.length<=1000000)(w:World)(hB:B+2 < w.heap.size)(hS:Aa w B 9 #[.string ⟨L.toArray⟩])(hE:w.cell? ⟨B+1,0,none⟩=some (.string ⟨#[c]⟩))(hZ:w.cell? ⟨B+2,0,none⟩=some (.int .i64 0)) :
  Rt.It Fence.wide n Tryz.prog 211 (sqC B) (fun x:Bs=>#[.string ⟨x.toArray⟩]) (KB B) B (fun ys=>ys=splitB c L) (fun pre=>pre <+: splitB c L) (splitB c L).length w:=fun l J Jx W hW hJ _ hY h0=>
 split1 n hn l B c L J Jx hJ hY W hL (hS.below hW V0) ((hW.cell (p:=⟨B+1,0,none⟩) (by show B+1 < _;omega)).trans hE) ((hW.cell (p:=⟨B+2,0,none⟩) hB).trans hZ) h0
theorem seqU(L:Bs)(c:UInt8)(w:World) :
  Calls Tryz.prog 203 #[.string ⟨L.toArray⟩,.string ⟨#[c]⟩,.int .i64 0] w fun e w'=>e = .returned (.func (.func 211) #[] (sqC w.heap.size))/\w'=sqW L c w:=by
 go_enter Tryz.func203,Tryz.ntmps203;go_wp2_with fail
 go_ret;exact ⟨rfl,rfl⟩
theorem seqC(L:Bs)(c:UInt8)(w:World) :
  Calls Tryz.prog 185 #[.string ⟨L.toArray⟩,.string ⟨#[c]⟩] w fun e w'=>e = .returned (.func (.func 211) #[] (sqC w.heap.size))/\w'=sqW L c w:=by
 have h:=seqU L c w;generalize sqW L c w=w1 at *;generalize sqC w.heap.size=F at *;go_enter Tryz.func185,Tryz.ntmps185;go_wp2_with fail
 refine h.mono ?_;rintro e w' ⟨rfl,rfl⟩;go_wp2_with fail
 go_ret;exact ⟨rfl,rfl⟩
end
section
attribute [local go_sem] Oper.semAt_some
def bP(c:UInt8)(r:Bs):Option (Nat×Bs):=(aW c r).map fun p=>(p.1,(c :: r).take p.2)
theorem q6v{c:UInt8}{r:Bs}(h:dx c=true):namedL ((c :: r).take (aU true (c :: r)))=bP c r:=by
 have hon:onB true c=true:=by unfold onB;rw [h];rfl
 rw [q0g,if_pos hon,List.take_succ_cons];have hall:(c :: r.take (aU true r)).all (onB true)=true:=by
  rw [List.all_cons,hon];have key:∀ S:Bs,(S.take (aU true S)).all (onB true)=true:=fun S=>by
   exact V33
  rw [key];rfl
 have hlen:(c :: r.take (aU true r)).length=aU true r+1:=by
  rw [List.length_cons,List.length_take];have:=q1r true r;omega
 unfold bP aW namedL;rw [if_pos h];by_cases hw:aA (c :: r.take (aU true r))=true
 ·rw [if_pos hw,if_pos hw];rfl
 ·rw [if_neg hw,if_neg hw];have hw':aA (c :: r.take (aU true r))=false:=by simpa using hw
  have hn:nameB (c :: r.take (aU true r))=decide (aU true r+1<=32):=by
   show (decide ((c :: r.take (aU true r)).length<=32) && dx c && !aA (c :: r.take (aU true r)) && (c :: r.take (aU true r)).all (onB true))=_;rw [hlen,h,hw',hall];simp
  by_cases h32:32 < aU true r+1
  ·rw [if_pos h32,if_neg (by rw [hn];simp;omega)];rfl
  ·rw [if_neg h32,if_pos (by rw [hn];simp;omega)];rfl
theorem q6w{c:UInt8}{r:Bs}(hl:dx c=false)(h:numB c=true):bP c r=some (2,(c :: r).take (aU false (c :: r))):=by
 have hon:onB false c=true:=by unfold onB;rw [hl,h];rfl
 rw [q0g,if_pos hon];unfold bP aW;rw [if_neg (by rw [hl];decide),if_pos h];rfl
theorem q5B{c:UInt8}{r:Bs}(hl:dx c=false)(h:numB c=false):bP c r=(signsL.find? fun x=>x.isPrefixOf (c :: r)).map fun x=>(4,x):=by
 unfold bP;rw [q7i hl h];unfold tokS;cases hf:signsL.find? fun x=>x.isPrefixOf (c :: r) with
 | none=>rfl
 | some x=>
  have:=List.find?_some hf;simp only [Option.map_some];rw [q7k this]
theorem isAggE(w:World):(isAgg 27).run Tryz.prog w = .ok false w:=run_isAgg_plain Tryz.underlying27 rfl w
theorem q1H(s:ByteArray):s.data.toList.length=s.size:=V3
theorem q4H(s:ByteArray){c:UInt8}{r:Bs}(hd:s.data.toList=c :: r):∃ h:0 < s.size,s[0]=c:=by
 have h0:0 < s.size:=by rw [<-q1H,hd];exact Nat.succ_pos _
 refine ⟨h0,?_⟩;have:=q3a s h0;rw [hd] at this;injection this with h1 _
 exact h1.symm
theorem q6x(s:ByteArray)(n:Nat)(hs:s.size<=100000):(⟨(s.data.toList.take n).toArray⟩:ByteArray).size<=100000:=by
 have:=q1H s;rw [q1x,List.length_take];omega
theorem q7R(o:Option (Nat×Bs)):∃ (a1:Int) (a2:ByteArray) (e1:Int),FtV o = .tuple #[.agg #[.int .i64 a1,.string a2,.int .i64 0],.int .i64 e1]:=by
 cases o with
 | none=>exact ⟨_,_,_,rfl⟩
 | some p=>exact ⟨_,_,_,rfl⟩
def putFt(w:World)(n:Nat)(a1 a2 a3 e:Value):World:=(((w.setCell ⟨n,0,none⟩ a1).setCell ⟨n,1,none⟩ a2).setCell ⟨n,2,none⟩ a3).setCell ⟨n+1,0,none⟩ e
theorem q4I{w:World}{n:Nat}{x y z u:Value}(h:Aa w n 63 #[x,y,z])(a1 a2 a3 e:Value):Aa (putFt w n a1 a2 a3 e) n 63 #[a1,a2,a3]:=by
 have h1:=Aa.set h 0 a1;have h2:=Aa.set h1 1 a2;have h3:=Aa.set h2 2 a3;exact h3.far (p:=⟨n+1,0,none⟩) (by show n≠n+1;omega) e
theorem q4J{w:World}{n:Nat}{u:Value}(h:Aa w (n+1) 27 #[u])(a1 a2 a3 e:Value):Aa (putFt w n a1 a2 a3 e) (n+1) 27 #[e]:=by
 have h1:=h.far (p:=⟨n,0,none⟩) V14 a1;have h2:=h1.far (p:=⟨n,1,none⟩) V14 a2;have h3:=h2.far (p:=⟨n,2,none⟩) V14 a3;exact h3.set 0 e
theorem q2T{w0 w:World}{B n:Nat}(h:Below B w0 w)(hB:B<=n)(a1 a2 a3 e:Value):Below B w0 (putFt w n a1 a2 a3 e):=
 (((h.setCell (p:=⟨n,0,none⟩) hB a1).setCell (p:=⟨n,1,none⟩) hB a2).setCell (p:=⟨n,2,none⟩) hB a3).setCell (p:=⟨n+1,0,none⟩) (by show B<=n+1;omega) e
def ftX(s:ByteArray)(x y z e:Value)(w:World):World:=((w.alloc (.cells #[.string s] 9)).alloc (.cells #[x,y,z] 63)).alloc (.cells #[e] 27)
theorem q7S(s:ByteArray)(x y z e:Value)(w:World):(ftX s x y z e w).heap.size=w.heap.size+3:=by unfold ftX;simp
theorem q4b(s:ByteArray)(x y z e:Value)(w:World):Below w.heap.size w (ftX s x y z e w):=(((Below.refl _ w).alloc (Nat.le_refl _) _).alloc V3 _).alloc V4 _
theorem ftX_s(s:ByteArray)(x y z e:Value)(w:World):Aa (ftX s x y z e w) w.heap.size 9 #[.string s]:=((Aa.new w _ _).alloc _).alloc _
theorem ftX_t(s:ByteArray)(x y z e:Value)(w:World):Aa (ftX s x y z e w) (w.heap.size+1) 63 #[x,y,z]:=by
 have:=(Aa.new (w.alloc (.cells #[.string s] 9)) 63 #[x,y,z]).alloc (.cells #[e] 27);rw [World.size_alloc] at this;exact this
theorem ftX_e(s:ByteArray)(x y z e:Value)(w:World):Aa (ftX s x y z e w) (w.heap.size+1+1) 27 #[e]:=by
 have:=Aa.new ((w.alloc (.cells #[.string s] 9)).alloc (.cells #[x,y,z] 63)) 27 #[e];rw [World.size_alloc,World.size_alloc] at this;exact this
abbrev ftW(s:ByteArray)(w:World):World:=ftX s (.int .i64 0) (.string ⟨#[]⟩) (.int .i64 0) (.int .i64 0) w
theorem q5c(s:ByteArray)(w:World):(ftW s w).heap.size=w.heap.size+3:=q7S _ _ _ _ _ _
theorem q4c(s:ByteArray)(w:World):Below w.heap.size w (ftW s w):=q4b _ _ _ _ _ _
theorem ftW_t(s:ByteArray)(w:World):Aa (ftW s w) (w.heap.size+1) 63 #[.int .i64 0,.string ⟨#[]⟩,.int .i64 0]:=ftX_t _ _ _ _ _ _
theorem ftW_e(s:ByteArray)(w:World):Aa (ftW s w) (w.heap.size+1+1) 27 #[.int .i64 0]:=ftX_e _ _ _ _ _ _
theorem first_l(s:ByteArray)(c:UInt8)(r:Bs)(hs:s.size<=100000)(hd:s.data.toList=c :: r)(hl:dx c=true)(w:World) :
  Calls Tryz.prog 157 #[.string s] w fun e w'=>e = .returned (FtV (bP c r))/\Below w.heap.size w w':=by
 obtain ⟨h0,hc⟩:=q4H s hd;have hle:=pletter s[0];rw [hc,hl,<-hc] at hle;have hru:=prunT s V0;have hna:=pnamed ⟨(s.data.toList.take (aU true s.data.toList)).toArray⟩ (q6x s _ hs);have hF:namedL (⟨(s.data.toList.take (aU true s.data.toList)).toArray⟩:ByteArray).data.toList=bP c r:=by
  show namedL (s.data.toList.take (aU true s.data.toList))=_;rw [hd];exact q6v hl
 rw [hF] at hna;generalize (⟨(s.data.toList.take (aU true s.data.toList)).toArray⟩:ByteArray)=t at *;obtain ⟨a1,a2,e1,hV⟩:=q7R (bP c r);rw [hV] at hna ⊢;have HL:=Hi hle;have HR:=Hi hru;have HN:=Hi hna;clear hle hru hna hV hl hd hF hc;go_enter Tryz.func157,Tryz.ntmps157;go_wp2_with fail
 refine (HL.out _).mono ?_;rintro e w' ⟨rfl,rfl⟩;go_wp2_with fail
 refine (HR.out _).mono ?_;rintro e w' ⟨rfl,rfl⟩;go_wp2_with fail
 refine (HN.out _).mono ?_;rintro e w3 ⟨rfl,hb3⟩;have HB3:=Hi (show Below (w.heap.size+3) (ftW s w) w3 by rw [<-q5c s w];exact hb3);clear hb3;have bt:=(ftW_t s w).below HB3.out V0;have be:=(ftW_e s w).below HB3.out V0;have HT:=Hi bt;have HE:=Hi be;have f0:=bt.frozen 0;have f1:=bt.frozen 1;have f2:=bt.frozen 2;have f3:=be.frozen 0;have c0:=bt.cell 0;have c1:=bt.cell 1;have c2:=bt.cell 2;have c3:=be.cell 0;simp only [List.getElem?_toArray,List.getElem?_cons_zero,List.getElem?_cons_succ] at c0 c1 c2 c3;clear bt be;go_wp2_with fail
 refine bodyPost_ret (q1G rfl _ _ (w.heap.size+1) (w.heap.size+1+1) _ _ rfl rfl (loadT (q4I (u:=.int .i64 0) HT.out _ _ _ _)) (q05 (isAggE _) ((q4J HE.out _ _ _ _).cell 0))) rfl ?_;exact ⟨rfl,q2T ((q4c s w).trans (HB3.out.mono V0)) V0 _ _ _ _⟩
theorem first_d(s:ByteArray)(c:UInt8)(r:Bs)(hs:s.size<=100000)(hd:s.data.toList=c :: r)(hl:dx c=false)(hn:numB c=true)(w:World) :
  Calls Tryz.prog 157 #[.string s] w fun e w'=>e = .returned (FtV (bP c r))/\Below w.heap.size w w':=by
 obtain ⟨h0,hc⟩:=q4H s hd;have hle:=pletter s[0];rw [hc,hl,<-hc] at hle;have hdi:=pdigit s[0];rw [hc,hn,<-hc] at hdi;have hru:=prunF s V0;have hF:FtV (bP c r) = .tuple #[.agg #[.int .i64 2,.string ⟨(s.data.toList.take (aU false s.data.toList)).toArray⟩,.int .i64 0],.int .i64 0]:=by
  rw [q6w hl hn,hd];rfl
 rw [hF];generalize (⟨(s.data.toList.take (aU false s.data.toList)).toArray⟩:ByteArray)=t at *;have HL:=Hi hle;have HR:=Hi hru;have HN:=Hi hdi;clear hle hru hdi hl hn hd hF hc;go_enter Tryz.func157,Tryz.ntmps157;go_wp2_with fail
 refine (HL.out _).mono ?_;rintro e w' ⟨rfl,rfl⟩;go_wp2_with fail
 refine (HN.out _).mono ?_;rintro e w' ⟨rfl,rfl⟩;go_wp2_with fail
 refine (HR.out _).mono ?_;rintro e w' ⟨rfl,rfl⟩;go_wp2_with fail
 refine bodyPost_ret (q1G rfl _ _ (w.heap.size+1) (w.heap.size+1+1) _ _ rfl rfl (loadT (ftX_t s (.int .i64 2) (.string t) (.int .i64 0) (.int .i64 0) w)) (q05 (isAggE _) ((ftX_e s (.int .i64 2) (.string t) (.int .i64 0) (.int .i64 0) w).cell 0))) rfl ?_;exact ⟨rfl,q4b s _ _ _ _ w⟩
def FtI(s:ByteArray)(w:World)(pre:List Bs)(W:World):Prop:=(∀ x∈pre,x.isPrefixOf s.data.toList=false)/\Aa W w.heap.size 9 #[.string s] /\
 Aa W (w.heap.size+1) 63 #[.int .i64 0,.string ⟨#[]⟩,.int .i64 0]/\Aa W (w.heap.size+1+1) 27 #[.int .i64 0]/\Below w.heap.size w W
def FtX(s:ByteArray)(w:World)(pre:List Bs)(W:World):Prop:=∃ q x,pre=q ++ [x]/\(∀ y∈q,y.isPrefixOf s.data.toList=false)/\x.isPrefixOf s.data.toList=true /\
 Aa W (w.heap.size+1) 63 #[.int .i64 4,.string ⟨x.toArray⟩,.int .i64 0]/\Aa W (w.heap.size+1+1) 27 #[.int .i64 0]/\Below w.heap.size w W
theorem own_blk{T B g:Nat}{t:TypeId}{cs:Array Value}{A W:World}{row:Option Nat}(h:Aa A g t cs)(hg:A.grownBy W row)(hr:∀ r,row=some r->r=T\/(B<=r/\∃ o:Obj,A.heap[r]?=some o/\o.isCells=false))(hne:g≠T):Aa W g t cs:=
 (hg.block g h.lt (fun e=>by
  rcases hr g e.symm with h' | ⟨_,o,ho,hc⟩
  ·exact hne h'
  ·rw [show A.heap[g]?=_ from h] at ho;cases ho;cases hc)).trans h
theorem q4d{T B n:Nat}{w A W:World}{row:Option Nat}(h:Below n w A)(hg:A.grownBy W row)(hr:∀ r,row=some r->r=T\/(B<=r/\∃ o:Obj,A.heap[r]?=some o/\o.isCells=false))(hT:n<=T)(hB:n<=B)(hs:n<=A.heap.size):Below n w W:=
 h.grown hg hs fun k hk=>by rcases hr k hk with h' | ⟨h',_⟩ <;> omega
theorem ftI_own(s:ByteArray)(w:World){T B:Nat}(hT:w.heap.size+3<=T)(hB:w.heap.size<=B):Rt.OwnT T B (FtI s w):=fun pre A W row ⟨h1,h2,h3,h4,h5⟩ hg hr=>
 ⟨h1,own_blk h2 hg hr V0,own_blk h3 hg hr V0,own_blk h4 hg hr V0,q4d h5 hg hr V0 hB h5.size⟩
theorem ftX_own(s:ByteArray)(w:World){T B:Nat}(hT:w.heap.size+3<=T)(hB:w.heap.size<=B):Rt.OwnT T B (FtX s w):=fun pre A W row ⟨q,x,e,h1,h2,h3,h4,h5⟩ hg hr=>
 ⟨q,x,e,h1,h2,own_blk h3 hg hr V0,own_blk h4 hg hr V0,q4d h5 hg hr V0 hB h5.size⟩
theorem q6y(L:Bs)(c:UInt8)(w:World):(sqW L c w).heap.size=w.heap.size+3/\Below w.heap.size w (sqW L c w)/\Aa (sqW L c w) w.heap.size 9 #[.string ⟨L.toArray⟩]/\(sqW L c w).cell? ⟨w.heap.size+1,0,none⟩=some (.string ⟨#[c]⟩)/\(sqW L c w).cell? ⟨w.heap.size+2,0,none⟩=some (.int .i64 0):=by
 refine ⟨by unfold sqW;simp,(((Below.refl _ w).alloc (Nat.le_refl _) _).alloc V3 _).alloc V4 _,((Aa.new w _ _).alloc _).alloc _,?_,?_⟩
 ·have:=((Aa.new (w.alloc (.cells #[.string ⟨L.toArray⟩] 9)) 9 #[.string ⟨#[c]⟩]).alloc (.cells #[.int .i64 0] 3)).cell 0;rw [World.size_alloc] at this;exact this
 ·have:=(Aa.new ((w.alloc (.cells #[.string ⟨L.toArray⟩] 9)).alloc (.cells #[.string ⟨#[c]⟩] 9)) 3 #[.int .i64 0]).cell 0;rw [World.size_alloc,World.size_alloc] at this;exact this
theorem q1I{W:World}{g:Nat}{t:TypeId}{cs:Array Value}(h:Aa W g t cs){D:Nat}{o:Obj}(o':Obj)(hl:W.heap[D]?=some o)(ho:o.isCells=false):Aa (W.putObj D o') g t cs:=
 ((grownBy_putObj' W D o').block g h.lt (fun e=>by
  cases e;rw [show W.heap[g]?=_ from h] at hl;cases hl;cases ho)).trans h
theorem q13{n:Nat}{w W:World}(h:Below n w W){D:Nat}{o:Obj}(o':Obj)(hD:n<=D)(hl:W.heap[D]?=some o):Below n w (W.putObj D o'):=
 h.grown (grownBy_putObj' W D o') (by have:=(Array.getElem?_eq_some_iff.1 hl).1;omega) fun k e=>by cases e;exact hD
theorem q4e(W:World)(n:Nat)(a1 a2 a3 e:Value):KeepsOthers W (putFt W n a1 a2 a3 e):=
 (((KeepsOthers.setCell W ⟨n,0,none⟩ a1).trans (KeepsOthers.setCell _ ⟨n,1,none⟩ a2)).trans (KeepsOthers.setCell _ ⟨n,2,none⟩ a3)).trans (KeepsOthers.setCell _ ⟨n+1,0,none⟩ e)
theorem has_in{l:Nat}{n:Nat}(s:ByteArray)(x:Bs)(W:World):CallsIn (Fence.wide.inRound l) n Tryz.prog 177 #[.string s,.string ⟨x.toArray⟩] W fun e w'=>e = .returned (.bool (x.isPrefixOf s.data.toList))/\W=w':=
 CallsIn.inRound l (callsIn_wide.2 (has s ⟨x.toArray⟩ W))
theorem first_s(s:ByteArray)(c:UInt8)(r:Bs)(hs:s.size<=100000)(hd:s.data.toList=c :: r)(hl:dx c=false)(hn:numB c=false)(w:World) :
  Calls Tryz.prog 157 #[.string s] w fun e w'=>e = .returned (FtV (bP c r))/\Below w.heap.size w w':=by
 obtain ⟨h0,hc⟩:=q4H s hd;have hle:=pletter s[0];rw [hc,hl,<-hc] at hle;have hdi:=pdigit s[0];rw [hc,hn,<-hc] at hdi;have HF:=Hi (q5B (r:=r) hl hn);have HL:=Hi hle;have HN:=Hi hdi;have HD:=Hi hd;have HQ:=Hi (seqC signsT 32 (ftW s w));clear hle hdi hl hn hc hd;refine (callsIn_wide (n:=3)).1 ?_;refine callsIn_of_wp_marks Tryz.func157 rfl trivial ?_ rfl;simp only [Tryz.ntmps157,List.size_toArray,List.length_cons,List.length_nil,Nat.reduceAdd,Nat.reduceSub,Array.replicate_succ,Array.replicate_zero,List.push_toArray,List.append_toArray,List.nil_append,List.cons_append]
 gi_wp2_with ((first
  | (refine ⟨trivial,?_⟩;gi_at_call 179;refine (callsIn_wide.2 (HL.out _)).mono ?_;rintro e w' ⟨rfl,rfl⟩)
  | (refine ⟨trivial,?_⟩;gi_at_call 183;refine (callsIn_wide.2 (HN.out _)).mono ?_;rintro e w' ⟨rfl,rfl⟩)
  | (refine ⟨trivial,?_⟩;gi_at_call 185;refine (callsIn_wide.2 HQ.out).mono ?_;rintro e w' ⟨rfl,hw2⟩)))
 clear hw2;obtain ⟨q1,q2,q3,q4,q5⟩:=q6y signsT 32 (ftW s w);have hB:=q5c s w;have hw1:=q4c s w;have bs:=((ftX_s s (.int .i64 0) (.string ⟨#[]⟩) (.int .i64 0) (.int .i64 0) w)).below q2 V0;have bt:=(ftW_t s w).below q2 V0;have be:=(ftW_e s w).below q2 V0;have hbw:Below w.heap.size w (sqW signsT 32 (ftW s w)):=hw1.trans (q2.mono V0);generalize (ftW s w).heap.size=B at *;generalize sqW signsT 32 (ftW s w)=w2 at *;clear HQ hw1 q2 HL HN;refine Rt.range rfl V2 (gf:=211) (lb:=sqC B) rfl trivial (enters_of Tryz.func211 V1 rfl)
  (q7Q 2 V2 B 32 signsT V2 w2 V0 q3 q4 q5) V0 kb_t (kb_b V0) (Below.refl _ _) (fun _=>rfl)
  (FtI s w) (FtX s w) (ftI_own s w V0 V0) (ftX_own s w V0 V0) ⟨fun x hx=>(by cases hx),bs,bt,be,hbw⟩
  (fun x=>{ tmps:=#[.string s,.pointer (some ⟨w.heap.size,0,none⟩),.pointer (some ⟨w.heap.size+1,0,none⟩),.pointer (some ⟨w.heap.size+1+1,0,none⟩),.string ⟨x.toArray⟩,.bool false,.string s,
    .int .u8 (s[0].toNat:Int),.bool false,undef,undef,undef,undef,undef,.bool false,.string s,.int .u8 (s[0].toNat:Int),.bool false,undef,undef,undef,.func (.func 211) #[] (sqC B),.string ⟨x.toArray⟩,undef,undef,undef,undef,undef,undef],defers:=[] }) ?assign ?body ?done ?stop
 case assign=>
  intro l x W K hK;clear hB
  gi_wp2
  exact hK
 case body=>
  rintro l pre x W ⟨h1,h2,h3,h4,h5⟩ hlt;have c0:=h2.cell 0;simp only [List.getElem?_toArray,List.getElem?_cons_zero,List.getElem?_cons_succ] at c0;have hh:=fun n=>has_in (l:=l) (n:=n) s x W
  have hws:=h5.size;cases hp:x.isPrefixOf s.data.toList with
  | false=>
   rw [hp] at hh;have HH:=Hi hh;have HI:Hid (FtI s w (pre ++ [x]) W):=Hi ⟨fun y hy=>by
    rcases List.mem_append.1 hy with hy | hy
    ·exact h1 y hy
    ·rw [List.mem_singleton.1 hy];exact hp,h2,h3,h4,h5⟩
   clear hh h1 h2 h3 h4 h5 hp
   gi_wp2_with (refine ⟨trivial,?_⟩;gi_at_call 177;refine (HH.out _).mono ?_;rintro e w' ⟨rfl,rfl⟩)
   exact ⟨KeepsOthers.refl _,fun _ _ _=>rfl,HI.out⟩
  | true=>
   rw [hp] at hh;have HH:=Hi hh;have c1:=h3.cell 0;have c2:=h3.cell 1;have c3:=h3.cell 2;have c4:=h4.cell 0;have f1:=h3.frozen 0;have f2:=h3.frozen 1;have f3:=h3.frozen 2;have f4:=h4.frozen 0;simp only [List.getElem?_toArray,List.getElem?_cons_zero,List.getElem?_cons_succ] at c1 c2 c3 c4;have HI:Hid (FtX s w (pre ++ [x]) (putFt W (w.heap.size+1) (.int .i64 4) (.string ⟨x.toArray⟩) (.int .i64 0) (.int .i64 0))):=
    Hi ⟨pre,x,rfl,h1,hp,q4I (u:=.int .i64 0) h3 _ _ _ _,q4J h4 _ _ _ _,q2T h5 V0 _ _ _ _⟩
   clear hh h1 h2 h3 h4 h5 hp
   gi_wp2_with (refine ⟨trivial,?_⟩;gi_at_call 177;refine (HH.out _).mono ?_;rintro e w' ⟨rfl,rfl⟩)
   exact ⟨q4e _ _ _ _ _ _,HI.out⟩
 case done=>
  rintro D xs W hD rfl ⟨h1,h2,h3,h4,h5⟩ hK;have hws:=h5.size;have c1:=h3.cell 0;have c2:=h3.cell 1;have c3:=h3.cell 2;have c4:=h4.cell 0;have f1:=h3.frozen 0;have f2:=h3.frozen 1;have f3:=h3.frozen 2;have f4:=h4.frozen 0;simp only [List.getElem?_toArray,List.getElem?_cons_zero,List.getElem?_cons_succ] at c1 c2 c3 c4;have hV:FtV (bP c r) = .tuple #[.agg #[.int .i64 0,.string ⟨#[]⟩,.int .i64 0],.int .i64 100]:=by
   rw [HF.out,q7j _ _ (fun y hy=>by rw [<-HD.out];exact h1 y (by rw [q2C];exact hy))];rfl
  have HV:=Hi hV;have hk2:=(q4e W (w.heap.size+1) (.int .i64 0) (.string ⟨#[]⟩) (.int .i64 0) (.int .i64 100)).same D _ hK rfl;have HT:=Hi (q1I (q4I (u:=.int .i64 0) h3 (.int .i64 0) (.string ⟨#[]⟩) (.int .i64 0) (.int .i64 100)) (.deferred none) hk2 rfl);have HE:=Hi (q1I (q4J h4 (.int .i64 0) (.string ⟨#[]⟩) (.int .i64 0) (.int .i64 100)) (.deferred none) hk2 rfl);have HB:=Hi (q13 (q2T h5 (by omega:w.heap.size<=w.heap.size+1) (.int .i64 0) (.string ⟨#[]⟩) (.int .i64 0) (.int .i64 100)) (.deferred none) V0 hk2);have HK:=Hi hk2;clear h1 h2 h3 h4 h5 hV hk2;exact V2G
 case stop=>
  rintro D pre W hD ⟨z,hz⟩ ⟨q,x,rfl,h1,h2,h3,h4,h5⟩ hK;have hV:FtV (bP c r) = .tuple #[.agg #[.int .i64 4,.string ⟨x.toArray⟩,.int .i64 0],.int .i64 0]:=by
   rw [HF.out,q33 _ q x signsL z (by rw [<-q2C,<-hz];simp) (fun y hy=>by rw [<-HD.out];exact h1 y hy) (by rw [<-HD.out];exact h2)];rfl
  have HV:=Hi hV;have HT:=Hi (q1I h3 (.deferred none) hK rfl);have HE:=Hi (q1I h4 (.deferred none) hK rfl);have HB:=Hi (q13 h5 (.deferred none) V0 hK);have HK:=Hi hK;clear h1 h2 h3 h4 h5 hV hK hz;exact V2G
theorem first(s:ByteArray)(c:UInt8)(r:Bs)(hs:s.size<=100000)(hd:s.data.toList=c :: r)(w:World) :
  Calls Tryz.prog 157 #[.string s] w fun e w'=>e = .returned (FtV (bP c r))/\Below w.heap.size w w':=by
 cases hl:dx c with
 | true=>exact first_l s c r hs hd hl w
 | false=>
  cases hn:numB c with
  | true=>exact first_d s c r hs hd hl hn w
  | false=>exact first_s s c r hs hd hl hn w
end
end Lx
end Go.Proofs.YtcgibpdjfgjldaaGreatDoor
