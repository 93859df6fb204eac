/- DERIVED. RfT, LxN, LxPa, LxPb. By an AI agent. -/
import Derived.RangeFuncNested
import Derived.Test.YtdhoemlomojfaaaGreatDoorW10
import Derived.Test.YtdhoemlomojfaaaGreatDoorW01
import Derived.Test.YtdhoemlomojfaaaGreatDoorW07
import Derived.Test.YtdhoemlomojfaaaGreatDoorW29
import Derived.Shelf.Strings.SlTrimAscii
import Derived.OwnWalk
import Derived.Test.YtdhoemlomojfaaaGreatDoorW15
import Derived.RegionTactic
import Derived.Lib.Walk
import Derived.Lib.Slices
set_option maxHeartbeats 2000000
set_option linter.unusedVariables false
set_option linter.unusedSimpArgs false
namespace Go.Proofs.YtdhoemlomojfaaaGreatDoor.Rt
open Go Go.RowKit
section
variable {F : Fence} {n : Nat} {P : Program}
def Ab{β:Type}(T:Nat)(J:β→World→Prop):Prop:=∀ s A B row,J s A→A.grownBy B row→(∀ r,row=some r→r=T)→J s B
def It{α:Type}(F:Fence)(n:Nat)(P:Program)(g:Nat)(lb:Array Value)(encs:α→Array Value)(Kp:World→World→Prop)(T:Nat)(S Sp:List α→Prop)(N:Nat)(w:World):Prop:=
 ∀ (l:Nat) (J Jx:List α→World→Prop) (W:World),Below w.heap.size w W→Ab T J→Ab T Jx →
  (∀ pre x W1,J pre W1→pre.length < N→YieldAt F (n - 1) P l (encs x) W1 fun e W'=>
   (e = .returned (.bool true)∧J (pre ++ [x]) W'∧Kp W1 W')∨(e = .returned (.bool false)∧Jx (pre ++ [x]) W')) →
  J [] W →
  CallsIn F n P g (#[.func (.yield l) #[] #[]] ++ lb) W fun e W'=>(∃ v,e = .returned v)∧((∃ xs,S xs∧J xs W')∨(∃ pre,Sp pre∧Jx pre W'))
def OwnT{β:Type}(T B:Nat)(I:β→World→Prop):Prop:=
 ∀ s W W' row,I s W→W.grownBy W' row→(∀ r,row=some r→r=T∨(B≤r∧∃ o:Obj,W.heap[r]?=some o∧o.isCells=false))→I s W'
def post{α:Type}(Kp:World→World→Prop)(I Ix:List α→World→Prop)(xs:List α)(W:World):Exit→Act→World→Prop
 | .normal,_,W'=>KeepsOthers W W'∧Kp W W'∧I xs W'
 | .ret,_,W'=>KeepsOthers W W'∧Ix xs W'
 | .exit _,_,_=>False
 | .goto _,_,_=>False
 | .panic _,_,_=>False
 | .outgrown,_,_=>False
theorem ownT_alloc{β:Type}{T B:Nat}{I:β→World→Prop}(h:OwnT T B I){s:β}{W:World}(o:Obj)(hs:I s W):I s (W.alloc o):=
 h s W _ none hs (World.grownBy_alloc W o none) (fun r e=>by cases e)
theorem ownT_put{β:Type}{T B:Nat}{I:β→World→Prop}(h:OwnT T B I){s:β}{W:World}{l:Nat}{o:Obj}(o':Obj)(hs:I s W)(hB:B≤l)(hl:W.heap[l]?=some o)(ho:o.isCells=false):I s (W.putObj l o'):=
 h s W _ (some l) hs (grownBy_putObj' W l o') (fun r e=>by cases e;exact .inr ⟨hB,o,hl,ho⟩)
theorem far{A B:World}{row:Option Nat}{T r:Nat}{o:Obj}(hg:A.grownBy B row)(hr:∀ r,row=some r→r=T)(hne:r≠T)(h:A.heap[r]?=some o):B.heap[r]?=some o:=
 (hg.block r (Array.getElem?_eq_some_iff.1 h).1 (fun e=>hne (hr r e.symm))).trans h
theorem range{α:Type}{g:Operand}{ps:Array Tmp}{assign body:Code}{Q:Exit→Act→World→Prop}{a:Act}{w:World}
  (hro:F.round=none) (h1:1≤n) {gf:Nat} {lb:Array Value} (hg:a.eval g = .func (.func gf) #[] lb) (hFg:F.fn gf) (eg:∀ args w,(callFunc gf args).run P w = .ok (.enter gf args) w)
  {encs:α→Array Value} {Kp:World→World→Prop} {T:Nat} {S Sp:List α→Prop} {N:Nat} {w0:World} (hseq:It F (n - 1) P gf lb encs Kp T S Sp N w0) (hT:T < w.heap.size)
  (hKt:∀ {A B C:World},Kp A B→Kp B C→Kp A C) (hKb:∀ (W:World) (l:Nat) (o o':Obj),w.heap.size≤l→W.heap[l]?=some o→o.isCells=false→Kp W (W.putObj l o')) (hb0:Below w0.heap.size w0 w) (hps:∀ x,(encs x).size=ps.size)
  (I Ix:List α→World→Prop) (hI:OwnT T w.heap.size I) (hIx:OwnT T w.heap.size Ix) (h0:I [] w) (a₁:α→Act)
  (hassign:∀ (l:Nat) (x:α) (W:World) (K:Act→World→Prop),K (a₁ x) W →
   assign.wpIn (F.inRound l) (n - 1 - 1) P (Exit.then K (fun _ _ _=>False)) { tmps:=(ps.zip (encs x)).foldl (fun t (p,v)=>t.setIfInBounds p v) a.tmps,defers:=[] } W)
  (hbody:∀ (l:Nat) (pre:List α) (x:α) (W:World),I pre W→pre.length < N→body.wpIn (F.inRound l) (n - 1 - 1) P (post Kp I Ix (pre ++ [x]) W) (a₁ x) W)
  (hdone:∀ (D:Nat) (xs:List α) (W:World),w.heap.size≤D→S xs→I xs W→W.heap[D]?=some (.deferred (some []))→Q .normal { a with defers:={ target:=.collected D,args:=#[] } :: a.defers } W)
  (hstop:∀ (D:Nat) (pre:List α) (W:World),w.heap.size≤D→Sp pre→Ix pre W→W.heap[D]?=some (.deferred (some []))→Code.ret.wpIn F n P Q { a with defers:={ target:=.collected D,args:=#[] } :: a.defers } W) :
  (Code.rangeFunc g ps assign body).wpIn F n P Q a w:=by
 refine wpIn_rangeFunc fun fn hfn=>?_
 rw [hro];obtain ⟨rec,hrec⟩:∃ rec:LoopState→Option Code→Loop,rec=fun st pe=>{ state:=st,pending:=pe,fn,tmps:=a.tmps,params:=ps,assign,body,defers:=w.heap.size }:=⟨_,rfl⟩
 obtain ⟨L,hL⟩:∃ L,w.heap.size+1=L:=⟨_,rfl⟩;obtain ⟨W1,hW1⟩:∃ W1,(w.alloc (.deferred (some []))).alloc (.loop (rec .ready none))=W1:=⟨_,rfl⟩;have hL1:W1.heap[L]?=some (.loop (rec .ready none)):=by
  rw [←hW1,←hL];have:=World.alloc_heap_new (w.alloc (.deferred (some []))) (.loop (rec .ready none));rwa [World.size_alloc] at this
 have hK1:W1.heap[w.heap.size]?=some (.deferred (some [])):=by
  rw [←hW1];exact (Below.heap_alloc _ _ _ (by simp)).trans (World.alloc_heap_new w _)
 have hI1:I [] W1:=by rw [←hW1];exact ownT_alloc hI _ (ownT_alloc hI _ h0)
 have hb1:Below w0.heap.size w0 W1:=by
  rw [←hW1];exact hb0.trans ((((Below.refl _ w).alloc (Nat.le_refl _) _).alloc (by simp) _).mono hb0.size)
 have hLT:L≠T:=by omega
 have hDT:w.heap.size≠T:=by omega
 have hLD:L≠w.heap.size:=by omega
 have hBL:w.heap.size≤L:=by omega
 refine ⟨L,[{ target:=.collected w.heap.size,args:=#[] }],W1,{ target:=.fn (.func gf) lb,args:=#[.func (.yield L) #[] #[]] },W1,gf,#[.func (.yield L) #[] #[]] ++ lb,W1,?_,?_,?_,?_,fun _=>h1,?_⟩
 ·rw [←hW1,hrec,←hL];exact run_enterLoop_outer _ _ _ _ _
 ·simp only [resolve,hg];simp [go_sem]
 ·intro f' hf';simp [Target.leads] at hf';subst hf';exact hFg
 ·simp [invoke,go_sem,eg]
 ·have hrow:∀ {A:World} {row:Option Nat},(∀ r,row=some r→r=T)→(∀ r,row=some r→r=T∨(w.heap.size≤r∧∃ o:Obj,A.heap[r]?=some o∧o.isCells=false)):=fun hr r e=>.inl (hr r e)
  refine (hseq L
   (fun pre W=>I pre W∧W.heap[L]?=some (.loop (rec .ready none))∧W.heap[w.heap.size]?=some (.deferred (some [])))
   (fun pre W=>Ix pre W∧W.heap[L]?=some (.loop (rec .done (some .ret)))∧W.heap[w.heap.size]?=some (.deferred (some []))) W1 hb1
   (fun s A B row hs hg' hr=>⟨hI s A B row hs.1 hg' (hrow hr),far hg' hr hLT hs.2.1,far hg' hr hDT hs.2.2⟩)
   (fun s A B row hs hg' hr=>⟨hIx s A B row hs.1 hg' (hrow hr),far hg' hr hLT hs.2.1,far hg' hr hDT hs.2.2⟩) ?_ ⟨hI1,hL1,hK1⟩).mono ?_
  ·rintro pre x W ⟨hi,hl,hk⟩ hlen;have hlt:L < W.heap.size:=(Array.getElem?_eq_some_iff.1 hl).1;have hy:=run_yield (P:=P) (args:=encs x) hl (by rw [hrec];exact hps x);rw [hrec] at hy;refine ⟨fn,_,assign,body,hy,roundIn_of_wpIn hfn (hassign _ x W _ ⟨_,run_beginRound hl (by rw [hrec]),?_⟩)⟩;clear hy;obtain ⟨W2,hW2⟩:∃ W2,W.putObj L (.loop { rec .ready none with state:=.busy })=W2:=⟨_,rfl⟩;have hl2:W2.heap[L]?=some (.loop { rec .ready none with state:=.busy }):=by rw [←hW2];exact World.putObj_heap_same hlt
   have hk2:W2.heap[w.heap.size]?=some (.deferred (some [])):=by rw [←hW2];exact (World.putObj_heap_other (Ne.symm hLD)).trans hk
   have hi2:I pre W2:=by rw [←hW2];exact ownT_put hI _ hi hBL hl rfl
   have hp2:Kp W W2:=by rw [←hW2];exact hKb _ _ _ _ hBL hl rfl
   rw [hW2];refine wpIn_mono (hbody _ pre x W2 hi2 hlen) ?_;have fin:∀ (jump:Option Code) (W3:World),KeepsOthers W2 W3→∃ W4,W4=W3.putObj L (.loop (rec (if jump.isNone then .ready else .done) jump))∧W3.heap[L]?=some (.loop { rec .ready none with state:=.busy }) ∧
     (Instr.endRound L jump).run P W3 = .ok (.bool jump.isNone) W4∧W4.heap[L]?=some (.loop (rec (if jump.isNone then .ready else .done) jump))∧W4.heap[w.heap.size]?=some (.deferred (some [])):=fun jump W3 hk3=>by
    have hl3:=hk3.same _ _ hl2 rfl;have hr3:=run_endRound (P:=P) jump hl3;refine ⟨_,rfl,hl3,?_,World.putObj_heap_same (Array.getElem?_eq_some_iff.1 hl3).1,(World.putObj_heap_other (Ne.symm hLD)).trans (hk3.same _ _ hk2 rfl)⟩;rw [hrec] at hr3 ⊢;exact hr3
   rintro e a3 W3 hp;cases e with
   | normal=>
    obtain ⟨hk3,hkp3,hi3⟩:=hp;obtain ⟨W4,e4,hl3,hr,hl4,hk4⟩:=fin none W3 hk3;exact ⟨_,_,hr,.inl ⟨rfl,⟨by rw [e4];exact ownT_put hI _ hi3 hBL hl3 rfl,hl4,hk4⟩,hKt (hKt hp2 hkp3) (by rw [e4];exact hKb _ _ _ _ hBL hl3 rfl)⟩⟩
   | ret=>
    obtain ⟨hk3,hi3⟩:=hp;obtain ⟨W4,e4,hl3,hr,hl4,hk4⟩:=fin (some .ret) W3 hk3;exact ⟨_,_,hr,.inr ⟨rfl,by rw [e4];exact ownT_put hIx _ hi3 hBL hl3 rfl,hl4,hk4⟩⟩
   | exit id=>exact hp.elim
   | goto t=>exact hp.elim
   | panic ch=>exact hp.elim
   | outgrown=>exact hp.elim
  ·rintro e W2 ⟨⟨v,rfl⟩,(⟨xs,hS,hi,hl,hk⟩ | ⟨pre,hSp,hi,hl,hk⟩)⟩
   ·exact ⟨none,_,by have:=run_endLoop (P:=P) hl (by rw [hrec];simp);rw [hrec] at this;exact this,hdone _ xs _ (Nat.le_refl _) hS (ownT_put hI _ hi hBL hl rfl) ((World.putObj_heap_other (Ne.symm hLD)).trans hk)⟩
   ·exact ⟨some .ret,_,by have:=run_endLoop (P:=P) hl (by rw [hrec];simp);rw [hrec] at this;exact this,hstop _ pre _ (Nat.le_refl _) hSp (ownT_put hIx _ hi hBL hl rfl) ((World.putObj_heap_other (Ne.symm hLD)).trans hk)⟩
end
end Go.Proofs.YtdhoemlomojfaaaGreatDoor.Rt
namespace Go.Proofs.YtdhoemlomojfaaaGreatDoor.Lx
open Go Go.ChangeShapes Go.WideShapes Go.ChangeAt Go.RowKit Args
def nameB(s:Bs):Bool:=match s with
 | []=>false
 | c :: r=>decide ((c :: r).length≤32) && letB c && !wordB (c :: r) && (c :: r).all (onB true)
theorem bytes_cons(s:ByteArray)(h:0 < s.size):s.data.toList=s[0] :: s.data.toList.drop 1:=by
 have:=drop_at s 0 h
 rwa [List.drop_zero] at this
theorem pletter(c:UInt8)(w:World):Calls Tryz.prog 128 #[.int .u8 ((c.toNat:Nat):Int)] w fun e w'=>e = .returned (.bool (letB c))∧w=w':=by
 have hb:letB c=((decide (65≤c.toNat) && decide (c.toNat≤90)) || (decide (97≤c.toNat) && decide (c.toNat≤122))):=rfl;generalize letB c=b at *;generalize c.toNat=k at *;by_cases h1:65≤k
 ·by_cases h2:k≤90
  ·have HB:=Hi (show b=true by rw [hb];simp [h1,h2]);have i1:decide ((65:Int)≤(k:Int))=true:=by simp;omega
   have i2:decide ((k:Int)≤90)=true:=by simp;omega
   clear hb h1 h2;go_enter Tryz.func128,Tryz.ntmps128;go_wp2_with fail
   go_ret;exact ⟨(congrArg (fun b=>Ending.returned (Value.bool b)) HB.out).symm,rfl⟩
  ·by_cases h3:97≤k
   ·by_cases h4:k≤122
    ·have HB:=Hi (show b=true by rw [hb];simp [h3,h4]);have i1:decide ((65:Int)≤(k:Int))=true:=by simp;omega
     have i2:decide ((k:Int)≤90)=false:=by simp;omega
     have i3:decide ((97:Int)≤(k:Int))=true:=by simp;omega
     have i4:decide ((k:Int)≤122)=true:=by simp;omega
     clear hb h1 h2 h3 h4;go_enter Tryz.func128,Tryz.ntmps128;go_wp2_with fail
     go_ret;exact ⟨(congrArg (fun b=>Ending.returned (Value.bool b)) HB.out).symm,rfl⟩
    ·have HB:=Hi (show b=false by rw [hb];simp;omega);have i1:decide ((65:Int)≤(k:Int))=true:=by simp;omega
     have i2:decide ((k:Int)≤90)=false:=by simp;omega
     have i3:decide ((97:Int)≤(k:Int))=true:=by simp;omega
     have i4:decide ((k:Int)≤122)=false:=by simp;omega
     clear hb h1 h2 h3 h4;go_enter Tryz.func128,Tryz.ntmps128;go_wp2_with fail
     go_ret;exact ⟨(congrArg (fun b=>Ending.returned (Value.bool b)) HB.out).symm,rfl⟩
   ·have HB:=Hi (show b=false by rw [hb];simp;omega);have i1:decide ((65:Int)≤(k:Int))=true:=by simp;omega
    have i2:decide ((k:Int)≤90)=false:=by simp;omega
    have i3:decide ((97:Int)≤(k:Int))=false:=by simp;omega
    clear hb h1 h2 h3;go_enter Tryz.func128,Tryz.ntmps128;go_wp2_with fail
    go_ret;exact ⟨(congrArg (fun b=>Ending.returned (Value.bool b)) HB.out).symm,rfl⟩
 ·have HB:=Hi (show b=false by rw [hb];simp;omega);have i1:decide ((65:Int)≤(k:Int))=false:=by simp;omega
  have i3:decide ((97:Int)≤(k:Int))=false:=by simp;omega
  clear hb h1;go_enter Tryz.func128,Tryz.ntmps128;go_wp2_with fail
  go_ret;exact ⟨(congrArg (fun b=>Ending.returned (Value.bool b)) HB.out).symm,rfl⟩
theorem pdigit(c:UInt8)(w:World):Calls Tryz.prog 132 #[.int .u8 ((c.toNat:Nat):Int)] w fun e w'=>e = .returned (.bool (numB c))∧w=w':=by
 have hb:numB c=(decide (48≤c.toNat) && decide (c.toNat≤57)):=rfl;generalize numB c=b at *;generalize c.toNat=k at *;by_cases h1:48≤k
 ·by_cases h2:k≤57
  ·have HB:=Hi (show b=true by rw [hb];simp [h1,h2]);have i1:decide ((48:Int)≤(k:Int))=true:=by simp;omega
   have i2:decide ((k:Int)≤57)=true:=by simp;omega
   clear hb h1 h2;go_enter Tryz.func132,Tryz.ntmps132;go_wp2_with fail
   go_ret;exact ⟨(congrArg (fun b=>Ending.returned (Value.bool b)) HB.out).symm,rfl⟩
  ·have HB:=Hi (show b=false by rw [hb];simp;omega);have i1:decide ((48:Int)≤(k:Int))=true:=by simp;omega
   have i2:decide ((k:Int)≤57)=false:=by simp;omega
   clear hb h1 h2;go_enter Tryz.func132,Tryz.ntmps132;go_wp2_with fail
   go_ret;exact ⟨(congrArg (fun b=>Ending.returned (Value.bool b)) HB.out).symm,rfl⟩
 ·have HB:=Hi (show b=false by rw [hb];simp;omega);have i1:decide ((48:Int)≤(k:Int))=false:=by simp;omega
  clear hb h1;go_enter Tryz.func132,Tryz.ntmps132;go_wp2_with fail
  go_ret;exact ⟨(congrArg (fun b=>Ending.returned (Value.bool b)) HB.out).symm,rfl⟩
theorem pinNumber(c:UInt8)(w:World):Calls Tryz.prog 133 #[.int .u8 ((c.toNat:Nat):Int)] w fun e w'=>e = .returned (.bool (onB false c))∧w=w':=by
 have HL:=Hi (pletter c);have HD:=Hi (pdigit c);have hb:onB false c=(letB c || numB c):=by unfold onB;simp
 rw [hb];cases hl:letB c with
 | true=>
  rw [hl] at HL;clear hb hl;go_enter Tryz.func133,Tryz.ntmps133;go_wp2_with fail
  refine (HL.out _).mono ?_;rintro e w' ⟨rfl,rfl⟩;go_wp2_with fail
  go_ret;exact ⟨rfl,rfl⟩
 | false=>
  rw [hl] at HL;generalize numB c=b at *;clear hb hl;go_enter Tryz.func133,Tryz.ntmps133;go_wp2_with fail
  refine (HL.out _).mono ?_;rintro e w' ⟨rfl,rfl⟩;go_wp2_with fail
  refine (HD.out _).mono ?_;rintro e w' ⟨rfl,rfl⟩;go_wp2_with fail
  go_ret;exact ⟨rfl,rfl⟩
theorem pinName(c:UInt8)(w:World):Calls Tryz.prog 131 #[.int .u8 ((c.toNat:Nat):Int)] w fun e w'=>e = .returned (.bool (onB true c))∧w=w':=by
 have HL:=Hi (pinNumber c);have hb:onB true c=(onB false c || decide (c.toNat = 95)):=by
  unfold onB;have:(c==95)=decide (c.toNat = 95):=by
   by_cases h:c.toNat = 95
   ·have:c = 95:=by rw [u8_of h];rfl
    subst this;decide
   ·have:c≠95:=u8_ne h (by decide);simp [h,this]
  simp [this]
 rw [hb];generalize onB false c=x at *;cases x with
 | true=>
  clear hb;generalize c.toNat=k at *;go_enter Tryz.func131,Tryz.ntmps131;go_wp2_with fail
  refine (HL.out _).mono ?_;rintro e w' ⟨rfl,rfl⟩;go_wp2_with fail
  go_ret;exact ⟨rfl,rfl⟩
 | false=>
  clear hb;generalize c.toNat=k at *;by_cases hk:k = 95
  ·have HB:=Hi (show (false || decide (k = 95))=true by simp [hk]);have i1:((k:Int)==95)=true:=by simp;omega
   clear hk;go_enter Tryz.func131,Tryz.ntmps131;go_wp2_with fail
   refine (HL.out _).mono ?_;rintro e w' ⟨rfl,rfl⟩;go_wp2_with fail
   go_ret;exact ⟨(congrArg (fun b=>Ending.returned (Value.bool b)) HB.out).symm,rfl⟩
  ·have HB:=Hi (show (false || decide (k = 95))=false by simp [hk]);have i1:((k:Int)==95)=false:=by simp;omega
   clear hk;go_enter Tryz.func131,Tryz.ntmps131;go_wp2_with fail
   refine (HL.out _).mono ?_;rintro e w' ⟨rfl,rfl⟩;go_wp2_with fail
   go_ret;exact ⟨(congrArg (fun b=>Ending.returned (Value.bool b)) HB.out).symm,rfl⟩
theorem prunT(s:ByteArray)(hs:s.size≤140737488351232)(w:World):Calls Tryz.prog 130 #[.string s,.func (.func 131) #[] #[]] w fun e w'=>e = .returned (.string ⟨(s.data.toList.take (runL true s.data.toList)).toArray⟩)∧w=w':=by
 have HC:=Hi pinName;obtain ⟨R,hR⟩:∃ R,runL true s.data.toList=R:=⟨_,rfl⟩;have hRl:R≤s.size:=by have:=runL_le true s.data.toList;rw [hR] at this;simpa using this
 have hex:(⟨(s.data.toList.take R).toArray⟩:ByteArray)=s.extract 0 R:=by rw [Lib.extract_eq];simp
 rw [hR,hex];have HR:=Hi hR;clear hR hex;go_enter Tryz.func130,Tryz.ntmps130;go_wp2_with fail
 go_loop [5] (fun vi=>∃ k:Nat,k≤s.size∧vi = .int .i64 k∧Hid (k+runL true (s.data.toList.drop k)=R)) (fun vi=>s.size - (intOf vi).toNat)
 case atStart=>exact ⟨0,by omega,rfl,Hi (by rw [List.drop_zero,HR.out];omega)⟩
 case round=>
  obtain ⟨k,hk,rfl,HQ⟩:=hrel;by_cases hlt:k < s.size
  ·have hd:=drop_at s k hlt;have hq:=HQ.out;rw [hd,runL_cons] at hq;have hc:=HC.out s[k];cases ho:onB true s[k] with
   | true=>
    rw [ho,if_pos rfl] at hq;rw [ho] at hc;have HK:=Hi hc;have HN:=Hi (show k+1+runL true (s.data.toList.drop (k+1))=R by omega);clear hd hq hc ho HQ;go_wp2_with fail
    refine (HK.out _).mono ?_;rintro e w' ⟨rfl,rfl⟩;go_wp2_with fail
    go_round
    case rel=>exact ⟨k+1,by omega,by go_num,HN⟩
    case measure=>simp [intOf];omega
   | false=>
    rw [ho,if_neg (by decide)] at hq;rw [ho] at hc;have HK:=Hi hc;have HN:=Hi (show R=k by omega);have hkR:R≤k:=by omega
    clear hd hq hc ho HQ;go_wp2_with fail
    refine (HK.out _).mono ?_;rintro e w' ⟨rfl,rfl⟩;go_wp2_with fail
    go_ret;exact ⟨by rw [HN.out] <;> rfl,rfl⟩
  ·have hq:=HQ.out;rw [drop_end s k (by omega)] at hq;have HN:=Hi (show R=k by have:runL true [] = 0:=rfl;omega);clear hq HQ;go_wp2_with fail
   go_ret;exact ⟨by rw [HN.out] <;> rfl,rfl⟩
theorem prunF(s:ByteArray)(hs:s.size≤140737488351232)(w:World):Calls Tryz.prog 130 #[.string s,.func (.func 133) #[] #[]] w fun e w'=>e = .returned (.string ⟨(s.data.toList.take (runL false s.data.toList)).toArray⟩)∧w=w':=by
 have HC:=Hi pinNumber;obtain ⟨R,hR⟩:∃ R,runL false s.data.toList=R:=⟨_,rfl⟩;have hRl:R≤s.size:=by have:=runL_le false s.data.toList;rw [hR] at this;simpa using this
 have hex:(⟨(s.data.toList.take R).toArray⟩:ByteArray)=s.extract 0 R:=by rw [Lib.extract_eq];simp
 rw [hR,hex];have HR:=Hi hR;clear hR hex;go_enter Tryz.func130,Tryz.ntmps130;go_wp2_with fail
 go_loop [5] (fun vi=>∃ k:Nat,k≤s.size∧vi = .int .i64 k∧Hid (k+runL false (s.data.toList.drop k)=R)) (fun vi=>s.size - (intOf vi).toNat)
 case atStart=>exact ⟨0,by omega,rfl,Hi (by rw [List.drop_zero,HR.out];omega)⟩
 case round=>
  obtain ⟨k,hk,rfl,HQ⟩:=hrel;by_cases hlt:k < s.size
  ·have hd:=drop_at s k hlt;have hq:=HQ.out;rw [hd,runL_cons] at hq;have hc:=HC.out s[k];cases ho:onB false s[k] with
   | true=>
    rw [ho,if_pos rfl] at hq;rw [ho] at hc;have HK:=Hi hc;have HN:=Hi (show k+1+runL false (s.data.toList.drop (k+1))=R by omega);clear hd hq hc ho HQ;go_wp2_with fail
    refine (HK.out _).mono ?_;rintro e w' ⟨rfl,rfl⟩;go_wp2_with fail
    go_round
    case rel=>exact ⟨k+1,by omega,by go_num,HN⟩
    case measure=>simp [intOf];omega
   | false=>
    rw [ho,if_neg (by decide)] at hq;rw [ho] at hc;have HK:=Hi hc;have HN:=Hi (show R=k by omega);have hkR:R≤k:=by omega
    clear hd hq hc ho HQ;go_wp2_with fail
    refine (HK.out _).mono ?_;rintro e w' ⟨rfl,rfl⟩;go_wp2_with fail
    go_ret;exact ⟨by rw [HN.out] <;> rfl,rfl⟩
  ·have hq:=HQ.out;rw [drop_end s k (by omega)] at hq;have HN:=Hi (show R=k by have:runL false [] = 0:=rfl;omega);clear hq HQ;go_wp2_with fail
   go_ret;exact ⟨by rw [HN.out] <;> rfl,rfl⟩
theorem pword(s:ByteArray)(w:World):Calls Tryz.prog 156 #[.string s] w fun e w'=>e = .returned (.bool (wordB s.data.toList))∧w=w':=by
 cases h0:(s.toList==([115,101,99,114,101,116]:Bs)) with
 | true=>
  have HB:=Hi (show wordB s.data.toList=true by rw [←ByteArray.toList_eq,eq_of_beq h0];decide);generalize wordB s.data.toList=b at *;go_enter Tryz.func156,Tryz.ntmps156;go_wp2_with fail
  go_ret;exact ⟨(congrArg (fun b=>Ending.returned (Value.bool b)) HB.out).symm,rfl⟩
 | false=>
  cases h1:(s.toList==([112,117,98,108,105,99]:Bs)) with
  | true=>
   have HB:=Hi (show wordB s.data.toList=true by rw [←ByteArray.toList_eq,eq_of_beq h1];decide);generalize wordB s.data.toList=b at *;go_enter Tryz.func156,Tryz.ntmps156;go_wp2_with fail
   go_ret;exact ⟨(congrArg (fun b=>Ending.returned (Value.bool b)) HB.out).symm,rfl⟩
  | false=>
   cases h2:(s.toList==([111,117,116]:Bs)) with
   | true=>
    have HB:=Hi (show wordB s.data.toList=true by rw [←ByteArray.toList_eq,eq_of_beq h2];decide);generalize wordB s.data.toList=b at *;go_enter Tryz.func156,Tryz.ntmps156;go_wp2_with fail
    go_ret;exact ⟨(congrArg (fun b=>Ending.returned (Value.bool b)) HB.out).symm,rfl⟩
   | false=>
    cases h3:(s.toList==([115,104,111,119]:Bs)) with
    | true=>
     have HB:=Hi (show wordB s.data.toList=true by rw [←ByteArray.toList_eq,eq_of_beq h3];decide);generalize wordB s.data.toList=b at *;go_enter Tryz.func156,Tryz.ntmps156;go_wp2_with fail
     go_ret;exact ⟨(congrArg (fun b=>Ending.returned (Value.bool b)) HB.out).symm,rfl⟩
    | false=>
     cases h4:(s.toList==([102,111,114]:Bs)) with
     | true=>
      have HB:=Hi (show wordB s.data.toList=true by rw [←ByteArray.toList_eq,eq_of_beq h4];decide);generalize wordB s.data.toList=b at *;go_enter Tryz.func156,Tryz.ntmps156;go_wp2_with fail
      go_ret;exact ⟨(congrArg (fun b=>Ending.returned (Value.bool b)) HB.out).symm,rfl⟩
     | false=>
      cases h5:(s.toList==([105,110]:Bs)) with
      | true=>
       have HB:=Hi (show wordB s.data.toList=true by rw [←ByteArray.toList_eq,eq_of_beq h5];decide);generalize wordB s.data.toList=b at *;go_enter Tryz.func156,Tryz.ntmps156;go_wp2_with fail
       go_ret;exact ⟨(congrArg (fun b=>Ending.returned (Value.bool b)) HB.out).symm,rfl⟩
      | false=>
       cases h6:(s.toList==([102,110]:Bs)) with
       | true=>
        have HB:=Hi (show wordB s.data.toList=true by rw [←ByteArray.toList_eq,eq_of_beq h6];decide);generalize wordB s.data.toList=b at *;go_enter Tryz.func156,Tryz.ntmps156;go_wp2_with fail
        go_ret;exact ⟨(congrArg (fun b=>Ending.returned (Value.bool b)) HB.out).symm,rfl⟩
       | false=>
        have HB:=Hi (show wordB s.data.toList=false by
         have hx:∀ l:Bs,(s.toList==l)=false→¬ s.data.toList=l:=fun l h e=>by
          rw [beq_eq_false_iff_ne] at h;exact h (by rw [←e,ByteArray.toList_eq])
         have g0:=hx _ h0;have g1:=hx _ h1;have g2:=hx _ h2;have g3:=hx _ h3;have g4:=hx _ h4;have g5:=hx _ h5;have g6:=hx _ h6;unfold wordB words7;rw [List.contains_eq_mem,decide_eq_false_iff_not];simp only [List.mem_cons,List.not_mem_nil,or_false];rintro (h | h | h | h | h | h | h)
         ·exact g0 h
         ·exact g1 h
         ·exact g2 h
         ·exact g3 h
         ·exact g4 h
         ·exact g5 h
         ·exact g6 h)
        generalize wordB s.data.toList=b at *;go_enter Tryz.func156,Tryz.ntmps156;go_wp2_with fail
        go_ret;exact ⟨(congrArg (fun b=>Ending.returned (Value.bool b)) HB.out).symm,rfl⟩
theorem run_all{S:Bs}(h:S.all (onB true)=true):S.take (runL true S)=S:=by
 have:runL true S=S.length:=by
  induction S with
  | nil=>rfl
  | cons c r ih=>
   rw [List.all_cons,Bool.and_eq_true] at h;rw [runL_cons,if_pos h.1,ih h.2];rfl
 rw [this,List.take_length]
theorem all_run{S:Bs}(h:S.take (runL true S)=S):S.all (onB true)=true:=by
 have key:∀ S:Bs,(S.take (runL true S)).all (onB true)=true:=fun S=>by
  induction S with
  | nil=>rfl
  | cons c r ih=>
   rw [runL_cons];split
   ·rename_i hc;rw [List.take_succ_cons,List.all_cons,hc,ih];rfl
   ·rfl
 have:=key S
 rwa [h] at this
theorem pname(s:ByteArray)(hs:s.size≤140737488351232)(w:World) :
  Calls Tryz.prog 157 #[.string s] w fun e w'=>e = .returned (.bool (nameB s.data.toList))∧w=w':=by
 obtain ⟨b,hb⟩:∃ b,nameB s.data.toList=b:=⟨_,rfl⟩;rw [hb];by_cases h0:s.size = 0
 ·have hsn:s=⟨#[]⟩:=by
   apply ByteArray.ext;exact Array.eq_empty_of_size_eq_zero h0
  subst hsn;have HB:b=false:=hb.symm;subst HB;clear hb;go_enter Tryz.func157,Tryz.ntmps157;go_wp2_with fail
  go_ret;exact ⟨rfl,rfl⟩
 ·have h0':0 < s.size:=by omega
  have hcs:=bytes_cons s h0';have hne:(s.toList==[])=false:=by rw [ByteArray.toList_eq,hcs];rfl
  have hl:s.data.toList.length=s.size:=by simp
  have hw:=pword s w;have hlt:=pletter s[0] w;have hrn:=prunT s hs w;have hb':b=(decide (s.size≤32) && letB s[0] && !wordB s.data.toList && s.data.toList.all (onB true)):=by
   rw [←hb,←hl];unfold nameB;rw [hcs]
  clear hb;cases hL:letB s[0] with
  | false=>
   rw [hL] at hlt hb';have HB:b=false:=by rw [hb'];simp
   subst HB;have HL:=Hi hlt;clear hlt hb' hw hrn hcs hl hL h0;go_enter Tryz.func157,Tryz.ntmps157;go_wp2_with fail
   refine HL.out.mono ?_;rintro e w' ⟨rfl,rfl⟩;go_wp2_with fail
   go_ret;exact ⟨rfl,rfl⟩
  | true=>
   rw [hL] at hlt hb';have HL:=Hi hlt;cases hA:s.data.toList.all (onB true) with
   | false=>
    rw [hA] at hb';have HB:b=false:=by rw [hb'];simp
    subst HB;have htn:((⟨(s.data.toList.take (runL true s.data.toList)).toArray⟩:ByteArray).toList==s.toList)=false:=by
     rw [beq_eq_false_iff_ne,ByteArray.toList_eq,ByteArray.toList_eq];intro h;have:=all_run h;rw [hA] at this;cases this
    generalize (⟨(s.data.toList.take (runL true s.data.toList)).toArray⟩:ByteArray)=t at *;have HR:=Hi hrn;clear hlt hb' hw hrn hcs hl hL h0 hA;go_enter Tryz.func157,Tryz.ntmps157;go_wp2_with fail
    refine HL.out.mono ?_;rintro e w' ⟨rfl,rfl⟩;go_wp2_with fail
    refine HR.out.mono ?_;rintro e w' ⟨rfl,rfl⟩;go_wp2_with fail
    go_ret;exact ⟨rfl,rfl⟩
   | true=>
    rw [hA] at hb';rw [run_all hA,show (⟨s.data.toList.toArray⟩:ByteArray)=s from rfl] at hrn;have HR:=Hi hrn;by_cases h32:s.size≤32
    ·have HB:b = !wordB s.data.toList:=by rw [hb'];simp [h32]
     have i1:decide ((s.size:Int)≤32)=true:=by simp;omega
     generalize wordB s.data.toList=x at *;subst HB;have HW:=Hi hw;clear hlt hb' hw hrn hcs hl hL h0 hA;go_enter Tryz.func157,Tryz.ntmps157;go_wp2_with fail
     refine HL.out.mono ?_;rintro e w' ⟨rfl,rfl⟩;go_wp2_with fail
     refine HR.out.mono ?_;rintro e w' ⟨rfl,rfl⟩;go_wp2_with fail
     refine HW.out.mono ?_;rintro e w' ⟨rfl,rfl⟩;go_wp2_with fail
     go_ret;exact ⟨rfl,rfl⟩
    ·have HB:b=false:=by rw [hb'];simp;omega
     have i1:decide ((s.size:Int)≤32)=false:=by simp;omega
     subst HB;clear hlt hb' hw hrn hcs hl hL h0 hA;go_enter Tryz.func157,Tryz.ntmps157;go_wp2_with fail
     refine HL.out.mono ?_;rintro e w' ⟨rfl,rfl⟩;go_wp2_with fail
     refine HR.out.mono ?_;rintro e w' ⟨rfl,rfl⟩;go_wp2_with fail
     go_ret;exact ⟨rfl,rfl⟩
def FtV(o:Option (Nat×Bs)):Value:=match o with
 | some (k,t)=>.tuple #[.agg #[.int .i64 (k:Int),.string ⟨t.toArray⟩,.int .i64 0],.int .i64 0]
 | none=>.tuple #[.agg #[.int .i64 0,.string ⟨#[]⟩,.int .i64 0],.int .i64 100]
def namedL(S:Bs):Option (Nat×Bs):=if wordB S=true then some (3,S) else if nameB S=true then some (1,S) else none
theorem loadT{w:World}{g:Nat}{a b c:Value}(h:Blk w g 134 #[a,b,c]):(loadVar 134 ⟨g,0,none⟩).run Tryz.prog w = .ok (.agg #[a,b,c]) w:=
 run_loadVar_row w g _ _ _ (0,0) _ h Tryz.underlying134 rfl (by kernel_rfl)
theorem pnamed(s:ByteArray)(hs:s.size≤100000)(w:World) :
  Calls Tryz.prog 129 #[.string s] w fun e w'=>e = .returned (FtV (namedL s.data.toList))∧Below w.heap.size w w':=by
 have hw:=pword s;have hn:=pname s (by omega);cases hW:wordB s.data.toList with
 | true=>
  rw [hW] at hw;have HV:=Hi (show FtV (namedL s.data.toList) = .tuple #[.agg #[.int .i64 3,.string s,.int .i64 0],.int .i64 0] by unfold namedL;rw [if_pos hW];rfl);generalize FtV (namedL s.data.toList)=V at *;have HW:=Hi hw;clear hw hn hW;go_enter Tryz.func129,Tryz.ntmps129;go_wp2_with fail
  refine (HW.out _).mono ?_;rintro e w' ⟨rfl,rfl⟩;go_wp2_with fail
  refine bodyPost_ret (results_ct rfl _ _ w.heap.size _ rfl (loadT (Blk.new _ _ _))) rfl ?_;exact ⟨(congrArg Ending.returned HV.out).symm,(Below.refl _ _).alloc (Nat.le_refl _) _⟩
 | false=>
  rw [hW] at hw;cases hN:nameB s.data.toList with
  | false=>
   rw [hN] at hn;have HV:=Hi (show FtV (namedL s.data.toList) = .tuple #[.agg #[.int .i64 0,.string ⟨#[]⟩,.int .i64 0],.int .i64 100] by unfold namedL;rw [if_neg (by rw [hW];decide),if_neg (by rw [hN];decide)];rfl);generalize FtV (namedL s.data.toList)=V at *;have HW:=Hi hw;have HN:=Hi hn;clear hw hn hW hN;go_enter Tryz.func129,Tryz.ntmps129;go_wp2_with fail
   refine (HW.out _).mono ?_;rintro e w' ⟨rfl,rfl⟩;go_wp2_with fail
   refine (HN.out _).mono ?_;rintro e w' ⟨rfl,rfl⟩;go_wp2_with fail
   refine bodyPost_ret (results_ct rfl _ _ w.heap.size _ rfl (loadT (Blk.new _ _ _))) rfl ?_;exact ⟨(congrArg Ending.returned HV.out).symm,(Below.refl _ _).alloc (Nat.le_refl _) _⟩
  | true=>
   rw [hN] at hn;have HV:=Hi (show FtV (namedL s.data.toList) = .tuple #[.agg #[.int .i64 1,.string s,.int .i64 0],.int .i64 0] by unfold namedL;rw [if_neg (by rw [hW];decide),if_pos hN];rfl);generalize FtV (namedL s.data.toList)=V at *;have HW:=Hi hw;have HN:=Hi hn;clear hw hn hW hN;go_enter Tryz.func129,Tryz.ntmps129;go_wp2_with fail
   refine (HW.out _).mono ?_;rintro e w' ⟨rfl,rfl⟩;go_wp2_with fail
   refine (HN.out _).mono ?_;rintro e w' ⟨rfl,rfl⟩;go_wp2_with fail
   refine bodyPost_ret (results_ct rfl _ _ w.heap.size _ rfl (loadT (Blk.new _ _ _))) rfl ?_;exact ⟨(congrArg Ending.returned HV.out).symm,(Below.refl _ _).alloc (Nat.le_refl _) _⟩
theorem trim(s:ByteArray)(w:World):Calls Tryz.prog 125 #[.string s,.string ⟨#[32,9,10]⟩] w fun e w'=>e = .returned (.string ⟨(s.data.toList.dropWhile (blk3.contains ·)).toArray⟩)∧Below w.heap.size w w':=
 Any.strings_TrimLeft_laid Tryz.lays161 (by kernel_rfl) s ⟨#[32,9,10]⟩ w (by decide) (fun j b hj=>by
  have hm:=List.mem_of_getElem? hj;simp at hm;rcases hm with rfl | rfl | rfl <;> decide)
theorem aft_at:∀ (r:Bs),(Lib.indexByte r 10 = -1∧aft r=[])∨∃ i:Nat,Lib.indexByte r 10=i∧i < r.length∧aft r=r.drop (i+1)
 | []=>.inl ⟨rfl,rfl⟩
 | d :: r=>by
  have e:Lib.indexByte (d :: r) 10=if d==10 then 0 else if Lib.indexByte r 10==-1 then -1 else Lib.indexByte r 10+1:=rfl
  have e2:aft (d :: r)=if d==10 then r else aft r:=rfl
  by_cases hd:(d==10)=true
  ·exact .inr ⟨0,by rw [e,if_pos hd];rfl,by simp,by rw [e2,if_pos hd];rfl⟩
  ·rcases aft_at r with ⟨h1,h2⟩ | ⟨i,h1,h2,h3⟩
   ·exact .inl ⟨by rw [e,if_neg hd,h1];rfl,by rw [e2,if_neg hd,h2]⟩
   ·refine .inr ⟨i+1,?_,by simp;omega,by rw [e2,if_neg hd,h3];rfl⟩;rw [e,if_neg hd,h1,if_neg (by rw [beq_iff_eq];omega)];push_cast;rfl
theorem cutlite(s:ByteArray)(hs:s.size≤100000)(w:World):Calls Tryz.prog 155 #[.string s,.string ⟨#[10]⟩] w fun e w'=>(∃ a b,e = .returned (.tuple #[.string a,.string ⟨(aft s.data.toList).toArray⟩,.bool b]))∧∃ n,w'=w.drewN n:=by
 have hx:=Tryz.stringslite_Index_one s 10 w;rcases aft_at s.data.toList with ⟨h1,h2⟩ | ⟨i,h1,h2,h3⟩
 ·rw [h1] at hx;rw [h2];have HX:=Hi hx;clear hx h1 h2;go_enter Tryz.func155,Tryz.ntmps155;go_wp2_with fail
  refine HX.out.mono ?_;rintro e w' ⟨rfl,rfl⟩;go_wp2_with fail
  go_ret3
  exact ⟨⟨_,_,rfl⟩,0,rfl⟩
 ·rw [h1] at hx;have hsz:s.data.toList.length=s.size:=by simp
  have hil:i+1≤s.size:=by omega
  have hex:(⟨(aft s.data.toList).toArray⟩:ByteArray)=s.extract (i+1) s.size:=by
   rw [h3,Lib.extract_eq]
   congr 2
   rw [List.take_of_length_le];rw [List.length_drop];simp
  rw [hex];have HX:=Hi hx;clear hx h1 h2 h3 hex;go_enter Tryz.func155,Tryz.ntmps155;go_wp2_with fail
  refine HX.out.mono ?_;rintro e w' ⟨rfl,rfl⟩;go_wp2_with fail
  go_quiet (fail)
  go_wp2_with fail
  go_ret3
  exact ⟨⟨_,_,rfl⟩,nq,rfl⟩
theorem cut(s:ByteArray)(hs:s.size≤100000)(w:World):Calls Tryz.prog 127 #[.string s,.string ⟨#[10]⟩] w fun e w'=>(∃ a b,e = .returned (.tuple #[.string a,.string ⟨(aft s.data.toList).toArray⟩,.bool b]))∧∃ n,w'=w.drewN n:=by
 have HX:=Hi (cutlite s hs w);generalize (⟨(aft s.data.toList).toArray⟩:ByteArray)=t at *;go_enter Tryz.func127,Tryz.ntmps127;go_wp2_with fail
 refine HX.out.mono ?_;rintro e w' ⟨⟨a,b,rfl⟩,n,rfl⟩;go_wp2_with fail
 go_ret3
 exact ⟨⟨_,_,rfl⟩,n,rfl⟩
end Go.Proofs.YtdhoemlomojfaaaGreatDoor.Lx
