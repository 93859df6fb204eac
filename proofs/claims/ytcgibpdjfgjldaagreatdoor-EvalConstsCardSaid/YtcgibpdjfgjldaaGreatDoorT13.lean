/- DERIVED. LxFi, LxTk, Round. By an AI agent. -/
import Derived.Test.YtcgibpdjfgjldaaGreatDoorT12
import Derived.OrdersIn
import Derived.Deep.RegionHeld3
set_option maxRecDepth 100000
set_option maxHeartbeats 4000000
set_option linter.unusedVariables false
set_option linter.unusedSimpArgs false
namespace Go.Proofs.YtcgibpdjfgjldaaGreatDoor
namespace Lx
open Go Go.ChangeShapes Go.WideShapes Go.ChangeAt Go.RowKit Go.Shelf Args
section
attribute [local go_sem] Oper.semAt_some
def firstL(c:UInt8)(r:Bs):Option (Nat×Bs):=(tokC c r).map fun p=>(p.1,(c :: r).take p.2)
theorem q6a{c:UInt8}{r:Bs}(h:letB c=true):namedL ((c :: r).take (runL true (c :: r)))=firstL c r:=by
 have hon:onB true c=true:=by unfold onB;rw [h];rfl
 rw [q0g,if_pos hon,List.take_succ_cons];have hall:(c :: r.take (runL true r)).all (onB true)=true:=by
  rw [List.all_cons,hon];have key:∀ S:Bs,(S.take (runL true S)).all (onB true)=true:=fun S=>by
   exact V32
  rw [key];rfl
 have hlen:(c :: r.take (runL true r)).length=runL true r+1:=by
  rw [List.length_cons,List.length_take];have:=q1p true r;omega
 unfold firstL tokC namedL;rw [if_pos h];by_cases hw:wordB (c :: r.take (runL true r))=true
 ·rw [if_pos hw,if_pos hw];rfl
 ·rw [if_neg hw,if_neg hw];have hw':wordB (c :: r.take (runL true r))=false:=by simpa using hw
  have hn:nameB (c :: r.take (runL true r))=decide (runL true r+1<=32):=by
   show (decide ((c :: r.take (runL true r)).length<=32) && letB c && !wordB (c :: r.take (runL true r)) && (c :: r.take (runL true r)).all (onB true))=_;rw [hlen,h,hw',hall];simp
  by_cases h32:32 < runL true r+1
  ·rw [if_pos h32,if_neg (by rw [hn];simp;omega)];rfl
  ·rw [if_neg h32,if_pos (by rw [hn];simp;omega)];rfl
theorem q6b{c:UInt8}{r:Bs}(hl:letB c=false)(h:numB c=true):firstL c r=some (2,(c :: r).take (runL false (c :: r))):=by
 have hon:onB false c=true:=by unfold onB;rw [hl,h];rfl
 rw [q0g,if_pos hon];unfold firstL tokC;rw [if_neg (by rw [hl];decide),if_pos h];rfl
theorem q5H{c:UInt8}{r:Bs}(hl:letB c=false)(h:numB c=false):firstL c r=(signsL.find? fun x=>x.isPrefixOf (c :: r)).map fun x=>(4,x):=by
 unfold firstL;rw [q7r hl h];unfold tokS;cases hf:signsL.find? fun x=>x.isPrefixOf (c :: r) with
 | none=>rfl
 | some x=>
  have:=List.find?_some hf;simp only [Option.map_some];rw [q7t this]
theorem isAggE(w:World):(isAgg 27).run Tryz.prog w = .ok false w:=run_isAgg_plain Tryz.underlying27 rfl w
theorem q1E(s:ByteArray):s.data.toList.length=s.size:=V3
theorem q4F(s:ByteArray){c:UInt8}{r:Bs}(hd:s.data.toList=c :: r):∃ h:0 < s.size,s[0]=c:=by
 have h0:0 < s.size:=by rw [<-q1E,hd];exact Nat.succ_pos _
 refine ⟨h0,?_⟩;have:=q32 s h0;rw [hd] at this;injection this with h1 _
 exact h1.symm
theorem q6c(s:ByteArray)(n:Nat)(hs:s.size<=100000):(⟨(s.data.toList.take n).toArray⟩:ByteArray).size<=100000:=by
 have:=q1E s;rw [q1t,List.length_take];omega
theorem q7I(o:Option (Nat×Bs)):∃ (a1:Int) (a2:ByteArray) (e1:Int),FtV o = .tuple #[.agg #[.int .i64 a1,.string a2,.int .i64 0],.int .i64 e1]:=by
 cases o with
 | none=>exact ⟨_,_,_,rfl⟩
 | some p=>exact ⟨_,_,_,rfl⟩
def putFt(w:World)(n:Nat)(a1 a2 a3 e:Value):World:=(((w.setCell ⟨n,0,none⟩ a1).setCell ⟨n,1,none⟩ a2).setCell ⟨n,2,none⟩ a3).setCell ⟨n+1,0,none⟩ e
theorem q4G{w:World}{n:Nat}{x y z u:Value}(h:Blk w n 63 #[x,y,z])(a1 a2 a3 e:Value):Blk (putFt w n a1 a2 a3 e) n 63 #[a1,a2,a3]:=by
 have h1:=Blk.set h 0 a1;have h2:=Blk.set h1 1 a2;have h3:=Blk.set h2 2 a3;exact h3.far (p:=⟨n+1,0,none⟩) (by show n≠n+1;omega) e
theorem q4H{w:World}{n:Nat}{u:Value}(h:Blk w (n+1) 27 #[u])(a1 a2 a3 e:Value):Blk (putFt w n a1 a2 a3 e) (n+1) 27 #[e]:=by
 have h1:=h.far (p:=⟨n,0,none⟩) V13 a1;have h2:=h1.far (p:=⟨n,1,none⟩) V13 a2;have h3:=h2.far (p:=⟨n,2,none⟩) V13 a3;exact h3.set 0 e
theorem q2H{w0 w:World}{B n:Nat}(h:Below B w0 w)(hB:B<=n)(a1 a2 a3 e:Value):Below B w0 (putFt w n a1 a2 a3 e):=
 (((h.setCell (p:=⟨n,0,none⟩) hB a1).setCell (p:=⟨n,1,none⟩) hB a2).setCell (p:=⟨n,2,none⟩) hB a3).setCell (p:=⟨n+1,0,none⟩) (by show B<=n+1;omega) e
def ftX(s:ByteArray)(x y z e:Value)(w:World):World:=((w.alloc (.cells #[.string s] 9)).alloc (.cells #[x,y,z] 63)).alloc (.cells #[e] 27)
theorem q7J(s:ByteArray)(x y z e:Value)(w:World):(ftX s x y z e w).heap.size=w.heap.size+3:=by unfold ftX;simp
theorem q3Z(s:ByteArray)(x y z e:Value)(w:World):Below w.heap.size w (ftX s x y z e w):=(((Below.refl _ w).alloc (Nat.le_refl _) _).alloc V3 _).alloc V4 _
theorem ftX_s(s:ByteArray)(x y z e:Value)(w:World):Blk (ftX s x y z e w) w.heap.size 9 #[.string s]:=((Blk.new w _ _).alloc _).alloc _
theorem ftX_t(s:ByteArray)(x y z e:Value)(w:World):Blk (ftX s x y z e w) (w.heap.size+1) 63 #[x,y,z]:=by
 have:=(Blk.new (w.alloc (.cells #[.string s] 9)) 63 #[x,y,z]).alloc (.cells #[e] 27);rw [World.size_alloc] at this;exact this
theorem ftX_e(s:ByteArray)(x y z e:Value)(w:World):Blk (ftX s x y z e w) (w.heap.size+1+1) 27 #[e]:=by
 have:=Blk.new ((w.alloc (.cells #[.string s] 9)).alloc (.cells #[x,y,z] 63)) 27 #[e];rw [World.size_alloc,World.size_alloc] at this;exact this
abbrev ftW(s:ByteArray)(w:World):World:=ftX s (.int .i64 0) (.string ⟨#[]⟩) (.int .i64 0) (.int .i64 0) w
theorem q5d(s:ByteArray)(w:World):(ftW s w).heap.size=w.heap.size+3:=q7J _ _ _ _ _ _
theorem q40(s:ByteArray)(w:World):Below w.heap.size w (ftW s w):=q3Z _ _ _ _ _ _
theorem ftW_t(s:ByteArray)(w:World):Blk (ftW s w) (w.heap.size+1) 63 #[.int .i64 0,.string ⟨#[]⟩,.int .i64 0]:=ftX_t _ _ _ _ _ _
theorem ftW_e(s:ByteArray)(w:World):Blk (ftW s w) (w.heap.size+1+1) 27 #[.int .i64 0]:=ftX_e _ _ _ _ _ _
theorem first_l(s:ByteArray)(c:UInt8)(r:Bs)(hs:s.size<=100000)(hd:s.data.toList=c :: r)(hl:letB c=true)(w:World) :
  Calls Tryz.prog 157 #[.string s] w fun e w'=>e = .returned (FtV (firstL c r))/\Below w.heap.size w w':=by
 obtain ⟨h0,hc⟩:=q4F s hd;have hle:=pletter s[0];rw [hc,hl,<-hc] at hle;have hru:=prunT s V0;have hna:=pnamed ⟨(s.data.toList.take (runL true s.data.toList)).toArray⟩ (q6c s _ hs);have hF:namedL (⟨(s.data.toList.take (runL true s.data.toList)).toArray⟩:ByteArray).data.toList=firstL c r:=by
  show namedL (s.data.toList.take (runL true s.data.toList))=_;rw [hd];exact q6a hl
 rw [hF] at hna;generalize (⟨(s.data.toList.take (runL true s.data.toList)).toArray⟩:ByteArray)=t at *;obtain ⟨a1,a2,e1,hV⟩:=q7I (firstL c r);rw [hV] at hna ⊢;have HL:=Hi hle;have HR:=Hi hru;have HN:=Hi hna;clear hle hru hna hV hl hd hF hc;go_enter Tryz.func157,Tryz.ntmps157;go_wp2_with fail
 refine (HL.out _).mono ?_;rintro e w' ⟨rfl,rfl⟩;go_wp2_with fail
 refine (HR.out _).mono ?_;rintro e w' ⟨rfl,rfl⟩;go_wp2_with fail
 refine (HN.out _).mono ?_;rintro e w3 ⟨rfl,hb3⟩;have HB3:=Hi (show Below (w.heap.size+3) (ftW s w) w3 by rw [<-q5d s w];exact hb3);clear hb3;have bt:=(ftW_t s w).below HB3.out V0;have be:=(ftW_e s w).below HB3.out V0;have HT:=Hi bt;have HE:=Hi be;have f0:=bt.frozen 0;have f1:=bt.frozen 1;have f2:=bt.frozen 2;have f3:=be.frozen 0;have c0:=bt.cell 0;have c1:=bt.cell 1;have c2:=bt.cell 2;have c3:=be.cell 0;simp only [List.getElem?_toArray,List.getElem?_cons_zero,List.getElem?_cons_succ] at c0 c1 c2 c3;clear bt be;go_wp2_with fail
 refine bodyPost_ret (q18 rfl _ _ (w.heap.size+1) (w.heap.size+1+1) _ _ rfl rfl (loadT (q4G (u:=.int .i64 0) HT.out _ _ _ _)) (q03 (isAggE _) ((q4H HE.out _ _ _ _).cell 0))) rfl ?_;exact ⟨rfl,q2H ((q40 s w).trans (HB3.out.mono V0)) V0 _ _ _ _⟩
theorem first_d(s:ByteArray)(c:UInt8)(r:Bs)(hs:s.size<=100000)(hd:s.data.toList=c :: r)(hl:letB c=false)(hn:numB c=true)(w:World) :
  Calls Tryz.prog 157 #[.string s] w fun e w'=>e = .returned (FtV (firstL c r))/\Below w.heap.size w w':=by
 obtain ⟨h0,hc⟩:=q4F s hd;have hle:=pletter s[0];rw [hc,hl,<-hc] at hle;have hdi:=pdigit s[0];rw [hc,hn,<-hc] at hdi;have hru:=prunF s V0;have hF:FtV (firstL c r) = .tuple #[.agg #[.int .i64 2,.string ⟨(s.data.toList.take (runL false s.data.toList)).toArray⟩,.int .i64 0],.int .i64 0]:=by
  rw [q6b hl hn,hd];rfl
 rw [hF];generalize (⟨(s.data.toList.take (runL false s.data.toList)).toArray⟩:ByteArray)=t at *;have HL:=Hi hle;have HR:=Hi hru;have HN:=Hi hdi;clear hle hru hdi hl hn hd hF hc;go_enter Tryz.func157,Tryz.ntmps157;go_wp2_with fail
 refine (HL.out _).mono ?_;rintro e w' ⟨rfl,rfl⟩;go_wp2_with fail
 refine (HN.out _).mono ?_;rintro e w' ⟨rfl,rfl⟩;go_wp2_with fail
 refine (HR.out _).mono ?_;rintro e w' ⟨rfl,rfl⟩;go_wp2_with fail
 refine bodyPost_ret (q18 rfl _ _ (w.heap.size+1) (w.heap.size+1+1) _ _ rfl rfl (loadT (ftX_t s (.int .i64 2) (.string t) (.int .i64 0) (.int .i64 0) w)) (q03 (isAggE _) ((ftX_e s (.int .i64 2) (.string t) (.int .i64 0) (.int .i64 0) w).cell 0))) rfl ?_;exact ⟨rfl,q3Z s _ _ _ _ w⟩
def FtI(s:ByteArray)(w:World)(pre:List Bs)(W:World):Prop:=(∀ x∈pre,x.isPrefixOf s.data.toList=false)/\Blk W w.heap.size 9 #[.string s] /\
 Blk W (w.heap.size+1) 63 #[.int .i64 0,.string ⟨#[]⟩,.int .i64 0]/\Blk W (w.heap.size+1+1) 27 #[.int .i64 0]/\Below w.heap.size w W
def FtX(s:ByteArray)(w:World)(pre:List Bs)(W:World):Prop:=∃ q x,pre=q ++ [x]/\(∀ y∈q,y.isPrefixOf s.data.toList=false)/\x.isPrefixOf s.data.toList=true /\
 Blk W (w.heap.size+1) 63 #[.int .i64 4,.string ⟨x.toArray⟩,.int .i64 0]/\Blk W (w.heap.size+1+1) 27 #[.int .i64 0]/\Below w.heap.size w W
theorem own_blk{T B g:Nat}{t:TypeId}{cs:Array Value}{A W:World}{row:Option Nat}(h:Blk A g t cs)(hg:A.grownBy W row)(hr:∀ r,row=some r->r=T\/(B<=r/\∃ o:Obj,A.heap[r]?=some o/\o.isCells=false))(hne:g≠T):Blk W g t cs:=
 (hg.block g h.lt (fun e=>by
  rcases hr g e.symm with h' | ⟨_,o,ho,hc⟩
  ·exact hne h'
  ·rw [show A.heap[g]?=_ from h] at ho;cases ho;cases hc)).trans h
theorem q41{T B n:Nat}{w A W:World}{row:Option Nat}(h:Below n w A)(hg:A.grownBy W row)(hr:∀ r,row=some r->r=T\/(B<=r/\∃ o:Obj,A.heap[r]?=some o/\o.isCells=false))(hT:n<=T)(hB:n<=B)(hs:n<=A.heap.size):Below n w W:=
 h.grown hg hs fun k hk=>by rcases hr k hk with h' | ⟨h',_⟩ <;> omega
theorem ftI_own(s:ByteArray)(w:World){T B:Nat}(hT:w.heap.size+3<=T)(hB:w.heap.size<=B):Rt.OwnT T B (FtI s w):=fun pre A W row ⟨h1,h2,h3,h4,h5⟩ hg hr=>
 ⟨h1,own_blk h2 hg hr V0,own_blk h3 hg hr V0,own_blk h4 hg hr V0,q41 h5 hg hr V0 hB h5.size⟩
theorem ftX_own(s:ByteArray)(w:World){T B:Nat}(hT:w.heap.size+3<=T)(hB:w.heap.size<=B):Rt.OwnT T B (FtX s w):=fun pre A W row ⟨q,x,e,h1,h2,h3,h4,h5⟩ hg hr=>
 ⟨q,x,e,h1,h2,own_blk h3 hg hr V0,own_blk h4 hg hr V0,q41 h5 hg hr V0 hB h5.size⟩
theorem q6d(L:Bs)(c:UInt8)(w:World):(sqW L c w).heap.size=w.heap.size+3/\Below w.heap.size w (sqW L c w)/\Blk (sqW L c w) w.heap.size 9 #[.string ⟨L.toArray⟩]/\(sqW L c w).cell? ⟨w.heap.size+1,0,none⟩=some (.string ⟨#[c]⟩)/\(sqW L c w).cell? ⟨w.heap.size+2,0,none⟩=some (.int .i64 0):=by
 refine ⟨by unfold sqW;simp,(((Below.refl _ w).alloc (Nat.le_refl _) _).alloc V3 _).alloc V4 _,((Blk.new w _ _).alloc _).alloc _,?_,?_⟩
 ·have:=((Blk.new (w.alloc (.cells #[.string ⟨L.toArray⟩] 9)) 9 #[.string ⟨#[c]⟩]).alloc (.cells #[.int .i64 0] 3)).cell 0;rw [World.size_alloc] at this;exact this
 ·have:=(Blk.new ((w.alloc (.cells #[.string ⟨L.toArray⟩] 9)).alloc (.cells #[.string ⟨#[c]⟩] 9)) 3 #[.int .i64 0]).cell 0;rw [World.size_alloc,World.size_alloc] at this;exact this
theorem q1F{W:World}{g:Nat}{t:TypeId}{cs:Array Value}(h:Blk W g t cs){D:Nat}{o:Obj}(o':Obj)(hl:W.heap[D]?=some o)(ho:o.isCells=false):Blk (W.putObj D o') g t cs:=
 ((grownBy_putObj' W D o').block g h.lt (fun e=>by
  cases e;rw [show W.heap[g]?=_ from h] at hl;cases hl;cases ho)).trans h
theorem q0Z{n:Nat}{w W:World}(h:Below n w W){D:Nat}{o:Obj}(o':Obj)(hD:n<=D)(hl:W.heap[D]?=some o):Below n w (W.putObj D o'):=
 h.grown (grownBy_putObj' W D o') (by have:=(Array.getElem?_eq_some_iff.1 hl).1;omega) fun k e=>by cases e;exact hD
theorem q42(W:World)(n:Nat)(a1 a2 a3 e:Value):KeepsOthers W (putFt W n a1 a2 a3 e):=
 (((KeepsOthers.setCell W ⟨n,0,none⟩ a1).trans (KeepsOthers.setCell _ ⟨n,1,none⟩ a2)).trans (KeepsOthers.setCell _ ⟨n,2,none⟩ a3)).trans (KeepsOthers.setCell _ ⟨n+1,0,none⟩ e)
theorem has_in{l:Nat}{n:Nat}(s:ByteArray)(x:Bs)(W:World):CallsIn (Fence.wide.inRound l) n Tryz.prog 177 #[.string s,.string ⟨x.toArray⟩] W fun e w'=>e = .returned (.bool (x.isPrefixOf s.data.toList))/\W=w':=
 CallsIn.inRound l (callsIn_wide.2 (has s ⟨x.toArray⟩ W))
theorem first_s(s:ByteArray)(c:UInt8)(r:Bs)(hs:s.size<=100000)(hd:s.data.toList=c :: r)(hl:letB c=false)(hn:numB c=false)(w:World) :
  Calls Tryz.prog 157 #[.string s] w fun e w'=>e = .returned (FtV (firstL c r))/\Below w.heap.size w w':=by
 obtain ⟨h0,hc⟩:=q4F s hd;have hle:=pletter s[0];rw [hc,hl,<-hc] at hle;have hdi:=pdigit s[0];rw [hc,hn,<-hc] at hdi;have HF:=Hi (q5H (r:=r) hl hn);have HL:=Hi hle;have HN:=Hi hdi;have HD:=Hi hd;have HQ:=Hi (seqC signsT 32 (ftW s w));clear hle hdi hl hn hc hd;refine (callsIn_wide (n:=3)).1 ?_;refine callsIn_of_wp_marks Tryz.func157 rfl trivial ?_ rfl;simp only [Tryz.ntmps157,List.size_toArray,List.length_cons,List.length_nil,Nat.reduceAdd,Nat.reduceSub,Array.replicate_succ,Array.replicate_zero,List.push_toArray,List.append_toArray,List.nil_append,List.cons_append]
 gi_wp2_with ((first
  | (refine ⟨trivial,?_⟩;gi_at_call 179;refine (callsIn_wide.2 (HL.out _)).mono ?_;rintro e w' ⟨rfl,rfl⟩)
  | (refine ⟨trivial,?_⟩;gi_at_call 183;refine (callsIn_wide.2 (HN.out _)).mono ?_;rintro e w' ⟨rfl,rfl⟩)
  | (refine ⟨trivial,?_⟩;gi_at_call 185;refine (callsIn_wide.2 HQ.out).mono ?_;rintro e w' ⟨rfl,hw2⟩)))
 clear hw2;obtain ⟨q1,q2,q3,q4,q5⟩:=q6d signsT 32 (ftW s w);have hB:=q5d s w;have hw1:=q40 s w;have bs:=((ftX_s s (.int .i64 0) (.string ⟨#[]⟩) (.int .i64 0) (.int .i64 0) w)).below q2 V0;have bt:=(ftW_t s w).below q2 V0;have be:=(ftW_e s w).below q2 V0;have hbw:Below w.heap.size w (sqW signsT 32 (ftW s w)):=hw1.trans (q2.mono V0);generalize (ftW s w).heap.size=B at *;generalize sqW signsT 32 (ftW s w)=w2 at *;clear HQ hw1 q2 HL HN;refine Rt.range rfl V2 (gf:=211) (lb:=sqC B) rfl trivial (enters_of Tryz.func211 V1 rfl)
  (q7H 2 V2 B 32 signsT V2 w2 V0 q3 q4 q5) V0 kb_t (kb_b V0) (Below.refl _ _) (fun _=>rfl)
  (FtI s w) (FtX s w) (ftI_own s w V0 V0) (ftX_own s w V0 V0) ⟨fun x hx=>(by cases hx),bs,bt,be,hbw⟩
  (fun x=>{ tmps:=#[.string s,.pointer (some ⟨w.heap.size,0,none⟩),.pointer (some ⟨w.heap.size+1,0,none⟩),.pointer (some ⟨w.heap.size+1+1,0,none⟩),.string ⟨x.toArray⟩,.bool false,.string s,
    .int .u8 (s[0].toNat:Int),.bool false,undef,undef,undef,undef,undef,.bool false,.string s,.int .u8 (s[0].toNat:Int),.bool false,undef,undef,undef,.func (.func 211) #[] (sqC B),.string ⟨x.toArray⟩,undef,undef,undef,undef,undef,undef],defers:=[] }) ?assign ?body ?done ?stop
 case assign=>
  intro l x W K hK;clear hB
  gi_wp2
  exact hK
 case body=>
  rintro l pre x W ⟨h1,h2,h3,h4,h5⟩ hlt;have c0:=h2.cell 0;simp only [List.getElem?_toArray,List.getElem?_cons_zero,List.getElem?_cons_succ] at c0;have hh:=fun n=>has_in (l:=l) (n:=n) s x W
  have hws:=h5.size;cases hp:x.isPrefixOf s.data.toList with
  | false=>
   rw [hp] at hh;have HH:=Hi hh;have HI:Hid (FtI s w (pre ++ [x]) W):=Hi ⟨fun y hy=>by
    rcases List.mem_append.1 hy with hy | hy
    ·exact h1 y hy
    ·rw [List.mem_singleton.1 hy];exact hp,h2,h3,h4,h5⟩
   clear hh h1 h2 h3 h4 h5 hp
   gi_wp2_with (refine ⟨trivial,?_⟩;gi_at_call 177;refine (HH.out _).mono ?_;rintro e w' ⟨rfl,rfl⟩)
   exact ⟨KeepsOthers.refl _,fun _ _ _=>rfl,HI.out⟩
  | true=>
   rw [hp] at hh;have HH:=Hi hh;have c1:=h3.cell 0;have c2:=h3.cell 1;have c3:=h3.cell 2;have c4:=h4.cell 0;have f1:=h3.frozen 0;have f2:=h3.frozen 1;have f3:=h3.frozen 2;have f4:=h4.frozen 0;simp only [List.getElem?_toArray,List.getElem?_cons_zero,List.getElem?_cons_succ] at c1 c2 c3 c4;have HI:Hid (FtX s w (pre ++ [x]) (putFt W (w.heap.size+1) (.int .i64 4) (.string ⟨x.toArray⟩) (.int .i64 0) (.int .i64 0))):=
    Hi ⟨pre,x,rfl,h1,hp,q4G (u:=.int .i64 0) h3 _ _ _ _,q4H h4 _ _ _ _,q2H h5 V0 _ _ _ _⟩
   clear hh h1 h2 h3 h4 h5 hp
   gi_wp2_with (refine ⟨trivial,?_⟩;gi_at_call 177;refine (HH.out _).mono ?_;rintro e w' ⟨rfl,rfl⟩)
   exact ⟨q42 _ _ _ _ _ _,HI.out⟩
 case done=>
  rintro D xs W hD rfl ⟨h1,h2,h3,h4,h5⟩ hK;have hws:=h5.size;have c1:=h3.cell 0;have c2:=h3.cell 1;have c3:=h3.cell 2;have c4:=h4.cell 0;have f1:=h3.frozen 0;have f2:=h3.frozen 1;have f3:=h3.frozen 2;have f4:=h4.frozen 0;simp only [List.getElem?_toArray,List.getElem?_cons_zero,List.getElem?_cons_succ] at c1 c2 c3 c4;have hV:FtV (firstL c r) = .tuple #[.agg #[.int .i64 0,.string ⟨#[]⟩,.int .i64 0],.int .i64 100]:=by
   rw [HF.out,q7s _ _ (fun y hy=>by rw [<-HD.out];exact h1 y (by rw [q2A];exact hy))];rfl
  have HV:=Hi hV;have hk2:=(q42 W (w.heap.size+1) (.int .i64 0) (.string ⟨#[]⟩) (.int .i64 0) (.int .i64 100)).same D _ hK rfl;have HT:=Hi (q1F (q4G (u:=.int .i64 0) h3 (.int .i64 0) (.string ⟨#[]⟩) (.int .i64 0) (.int .i64 100)) (.deferred none) hk2 rfl);have HE:=Hi (q1F (q4H h4 (.int .i64 0) (.string ⟨#[]⟩) (.int .i64 0) (.int .i64 100)) (.deferred none) hk2 rfl);have HB:=Hi (q0Z (q2H h5 (by omega:w.heap.size<=w.heap.size+1) (.int .i64 0) (.string ⟨#[]⟩) (.int .i64 0) (.int .i64 100)) (.deferred none) V0 hk2);have HK:=Hi hk2;clear h1 h2 h3 h4 h5 hV hk2;exact V2E
 case stop=>
  rintro D pre W hD ⟨z,hz⟩ ⟨q,x,rfl,h1,h2,h3,h4,h5⟩ hK;have hV:FtV (firstL c r) = .tuple #[.agg #[.int .i64 4,.string ⟨x.toArray⟩,.int .i64 0],.int .i64 0]:=by
   rw [HF.out,q2V _ q x signsL z (by rw [<-q2A,<-hz];simp) (fun y hy=>by rw [<-HD.out];exact h1 y hy) (by rw [<-HD.out];exact h2)];rfl
  have HV:=Hi hV;have HT:=Hi (q1F h3 (.deferred none) hK rfl);have HE:=Hi (q1F h4 (.deferred none) hK rfl);have HB:=Hi (q0Z h5 (.deferred none) V0 hK);have HK:=Hi hK;clear h1 h2 h3 h4 h5 hV hK hz;exact V2E
theorem first(s:ByteArray)(c:UInt8)(r:Bs)(hs:s.size<=100000)(hd:s.data.toList=c :: r)(w:World) :
  Calls Tryz.prog 157 #[.string s] w fun e w'=>e = .returned (FtV (firstL c r))/\Below w.heap.size w w':=by
 cases hl:letB c with
 | true=>exact first_l s c r hs hd hl w
 | false=>
  cases hn:numB c with
  | true=>exact first_d s c r hs hd hl hn w
  | false=>exact first_s s c r hs hd hl hn w
end
section
attribute [local go_sem] Oper.semAt_some
def Arr(W:World)(lb k:Nat):Prop:=∃ o n c,W.cell? ⟨lb,0,none⟩=some (.slice (some ⟨k,o,none⟩) n c)
structure KA(lb:Nat)(W W':World):Prop where
 size:W.heap.size<=W'.heap.size
 arr:∀ k,Arr W' lb k->Arr W lb k\/W.heap.size<=k
 wf:(∀ k,Arr W lb k->k < W.heap.size)->∀ k,Arr W' lb k->k < W'.heap.size
 keep:∀ k o,k≠lb->¬ Arr W lb k->W.heap[k]?=some o->o.isCells=true->W'.heap[k]?=some o
theorem ka_t{lb:Nat}{A B C:World}(h:KA lb A B)(k:KA lb B C):KA lb A C:=by
 refine ⟨Nat.le_trans h.size k.size,fun i hi=>?_,fun hw=>k.wf (h.wf hw),fun i o h1 h2 h3 h4=>?_⟩
 ·rcases k.arr i hi with h1 | h1
  ·exact h.arr i h1
  ·exact .inr (Nat.le_trans h.size h1)
 ·refine k.keep i o h1 (fun ha=>?_) (h.keep i o h1 h2 h3 h4) h4;rcases h.arr i ha with h5 | h5
  ·exact h2 h5
  ·have:=(Array.getElem?_eq_some_iff.1 h3).1;omega
theorem q43{W W':World}{lb k:Nat}(h:W'.heap[lb]?=W.heap[lb]?):Arr W' lb k↔Arr W lb k:=by
 unfold Arr;rw [World.cell?_of_block (a:=⟨lb,0,none⟩) h]
theorem q5e{lb:Nat}{W W':World}(hs:W.heap.size<=W'.heap.size)(hb:W'.heap[lb]?=W.heap[lb]?)(hk:∀ (k:Nat) (o:Obj),W.heap[k]?=some o->o.isCells=true->W'.heap[k]?=some o):KA lb W W':=
 ⟨hs,fun k h=>.inl ((q43 hb).1 h),fun hw k h=>Nat.lt_of_lt_of_le (hw k ((q43 hb).1 h)) hs,fun k o _ _ h1 h2=>hk k o h1 h2⟩
theorem ka_b{lb:Nat}{w:World}(hn:lb < w.heap.size)(W:World)(l:Nat)(o o':Obj)(hl:w.heap.size<=l)(h:W.heap[l]?=some o)(hc:o.isCells=false)(_:o.isWalk=false):KA lb W (W.putObj l o'):=by
 have hll:=(Array.getElem?_eq_some_iff.1 h).1;refine q5e (by rw [World.putObj_size];exact Nat.le_refl _) (World.putObj_heap_other V0) (fun k o2 h1 h2=>?_);by_cases e:k=l
 ·subst e;rw [h] at h1;cases h1;rw [hc] at h2;cases h2
 ·exact (World.putObj_heap_other e).trans h1
theorem q7K{lb:Nat}{W:World}(hn:lb < W.heap.size)(o:Obj):KA lb W (W.alloc o):=
 q5e V3 (Below.heap_alloc W o lb hn) (fun k o2 h1 _=>(Below.heap_alloc W o k (Array.getElem?_eq_some_iff.1 h1).1).trans h1)
def encT(x:Tk×Nat):Array Value:=#[.agg #[.int .i64 (x.1.k:Int),.string ⟨x.1.s.toArray⟩,.int .i64 (x.1.at_:Int)],.int .i64 (x.2:Int)]
theorem q1h{W W':World}(h:Below W.heap.size W W'):W.grownBy W' none:=⟨h.os,h.tape,h.output,h.size,fun k hk _=>h.block k hk⟩
structure TkI(lb Bx:Nat)(s:ByteArray)(w:World):Prop where
 lt:lb < w.heap.size
 wf:∀ k,Arr w lb k->k < w.heap.size
 box:Blk w Bx 9 #[.string s]
 ne:Bx≠lb
 far:¬ Arr w lb Bx
theorem TkI.below{lb Bx:Nat}{s:ByteArray}{w w':World}(h:TkI lb Bx s w)(hb:Below w.heap.size w w'):TkI lb Bx s w':=by
 have e:=hb.block lb h.lt;exact ⟨Nat.lt_of_lt_of_le h.lt hb.size,fun k hk=>Nat.lt_of_lt_of_le (h.wf k ((q43 e).1 hk)) hb.size,h.box.below hb h.box.lt,h.ne,fun ha=>h.far ((q43 e).1 ha)⟩
theorem TkI.ka{lb Bx:Nat}{s:ByteArray}{w w':World}(h:TkI lb Bx s w)(hk:KA lb w w'):TkI lb Bx s w':=
 ⟨Nat.lt_of_lt_of_le h.lt hk.size,hk.wf h.wf,hk.keep Bx _ h.ne h.far h.box rfl,h.ne,fun ha=>by
  rcases hk.arr Bx ha with h1 | h1
  ·exact h.far h1
  ·have:=h.box.lt;omega⟩
theorem tokens1(n:Nat)(hn:1<=n)(l lb Bx:Nat)(s:ByteArray)(hs:s.size<=20000)(J Jx:List (Tk×Nat)->World->Prop)
  (hJ:∀ pre W W',J pre W->W.grownBy W' none->J pre W')
  (hY:∀ pre x W,J pre W->pre.length < (itemsL s.data.toList).length->YieldAt Fence.wide (n - 1) Tryz.prog l (encT x) W fun e W'=>
   (e = .returned (.bool true)/\J (pre ++ [x]) W'/\KA lb W W')\/(e = .returned (.bool false)/\Jx (pre ++ [x]) W'))
  (W:World) (hI:TkI lb Bx s W) (h0:J [] W) :
  CallsIn Fence.wide n Tryz.prog 155 #[.func (.yield l) #[] #[],.pointer (some ⟨Bx,0,none⟩)] W fun e W'=>(∃ v,e = .returned v) /\
   ((∃ ys,ys=itemsL s.data.toList/\J ys W')\/(∃ pre,pre <+: itemsL s.data.toList/\Jx pre W')):=by
 refine callsIn_of_wp Tryz.func155 rfl trivial ?_ rfl;simp only [Tryz.ntmps155,List.size_toArray,List.length_cons,List.length_nil,Nat.reduceAdd,Nat.reduceSub,Array.replicate_succ,Array.replicate_zero,List.push_toArray,List.append_toArray,List.nil_append,List.cons_append];have HJ:=Hi hJ;have HY:=Hi hY;have HI:=Hi hI;have H0:=Hi h0;have c0:W.cell? ⟨Bx,0,none⟩=some (.string s):=hI.box.cell 0;have HP:=Hi (passed s V0 W);have hrl:=q2z s.data.toList;have hsz:=q1E s;have HS0:Hid ((restL s.data.toList).length < s.data.toList.length+1/\skipL false s.data.toList+(restL s.data.toList).length=s.size):=Hi ⟨V0,by
  have:=q0D false s.data.toList;unfold restL;rw [List.length_drop];omega⟩
 clear hJ hY hI h0 hrl
 gi_wp2_with (refine ⟨trivial,?_⟩;gi_at_call 156;refine (callsIn_wide.2 HP.out).mono ?_;rintro e w1 ⟨rfl,hb1⟩)
 have HJ1:=Hi (HJ.out _ _ _ H0.out (q1h hb1));have HI1:=Hi (HI.out.below hb1);clear hb1 c0
 gi_loopw [3] (fun vr wr=>∃ (pre:List (Tk×Nat)) (R:Bs) (f i:Nat),vr = .string ⟨R.toArray⟩/\i+R.length=s.size/\Hid (pre ++ goI f R i=itemsL s.data.toList/\R.length < f/\J pre wr/\TkI lb Bx s wr))
  (fun vr _=>szOf vr)
 case atStart=>exact ⟨[],restL s.data.toList,s.data.toList.length+1,skipL false s.data.toList,rfl,HS0.out.2,Hi ⟨rfl,HS0.out.1,HJ1.out,HI1.out⟩⟩
 case round=>
  clear HJ1 HI1 HS0 HP H0;obtain ⟨pre,R,f,i,rfl,hiR,HH⟩:=hrel;have c0:wr.cell? ⟨Bx,0,none⟩=some (.string s):=HH.out.2.2.2.box.cell 0;by_cases hR0:R=[]
  ·subst hR0;have hpre:=HH.out.1;obtain ⟨f,rfl⟩:∃ g,f=g+1:=⟨f - 1,by have:=HH.out.2.1;omega⟩;rw [q4v] at hpre;have his:i=s.size:=by simpa using hiR
   subst his;have HPR:=Hi hpre;obtain ⟨fn,tmps,assign,body,hy0,hRn⟩:=HY.out pre (⟨0,[],s.size⟩,0) wr HH.out.2.2.1 (by rw [<-hpre];simp);have hy:(Instr.yield l #[.agg #[.int .i64 0,.string ⟨#[]⟩,.int .i64 (s.size:Int)],.int .i64 0]).run Tryz.prog wr = .ok (.round l fn tmps assign body) wr:=hy0;clear hpre hy0
   gi_wp2
   refine hRn.mono ?_;rintro e W3 (⟨rfl,hJ3,hk3⟩ | ⟨rfl,hJx3⟩)
   ·gi_wp2
    go_end0
    exact ⟨⟨_,rfl⟩,.inl ⟨_,HPR.out,hJ3⟩⟩
   ·gi_wp2
    go_end0
    exact V3S
  ·obtain ⟨c,r,hcr⟩:∃ c r,R=c :: r:=by
    cases R with
    | nil=>exact absurd rfl hR0
    | cons c r=>exact ⟨c,r,rfl⟩
   have hne:(R==[])=false:=by rw [hcr];rfl
   obtain ⟨f,rfl⟩:∃ g,f=g+1:=⟨f - 1,by have:=HH.out.2.1;omega⟩;have hpre:=HH.out.1;have hi:(i:Int)=(s.size:Int) - (R.length:Int):=V0;have hfi:=first ⟨R.toArray⟩ c r V0n hcr wr;have HCR:=Hi hcr;have hlt0:=HH.out.2.2.2.box.lt;have hlb0:=HH.out.2.2.2.lt;rcases ht:tokC c r with _ | ⟨k,m⟩
   ·rw [hcr,q39 ht] at hpre;have HPR:=Hi hpre;have HYX:Hid (∀ w2,Below wr.heap.size wr w2->∃ fn tmps assign body,(Instr.yield l #[.agg #[.int .i64 0,.string ⟨#[]⟩,.int .i64 ((s.size:Int) - (R.length:Int))],.int .i64 100]).run Tryz.prog (w2.alloc (.cells #[.int .i64 0,.string ⟨#[]⟩,.int .i64 ((s.size:Int) - (R.length:Int))] 63)) = .ok (.round l fn tmps assign body) (w2.alloc (.cells #[.int .i64 0,.string ⟨#[]⟩,.int .i64 ((s.size:Int) - (R.length:Int))] 63)) /\
      RoundIn Fence.wide (n - 1) Tryz.prog l fn tmps assign body (w2.alloc (.cells #[.int .i64 0,.string ⟨#[]⟩,.int .i64 ((s.size:Int) - (R.length:Int))] 63)) fun e W'=>(e = .returned (.bool true)/\J (pre ++ [(⟨0,[],i⟩,100)]) W')\/(e = .returned (.bool false)/\Jx (pre ++ [(⟨0,[],i⟩,100)]) W')):=Hi fun w2 hb2=>by
     obtain ⟨W3,hW3⟩:∃ W3,w2.alloc (.cells #[.int .i64 0,.string ⟨#[]⟩,.int .i64 ((s.size:Int) - (R.length:Int))] 63)=W3:=⟨_,rfl⟩;rw [hW3];obtain ⟨fn,tmps,assign,body,hy,hRn⟩:=HY.out pre (⟨0,[],i⟩,100) W3 (HJ.out _ _ _ HH.out.2.2.1 (q1h (by rw [<-hW3];exact hb2.alloc hb2.size _))) V14;have hy2:(Instr.yield l #[.agg #[.int .i64 0,.string ⟨#[]⟩,.int .i64 (i:Int)],.int .i64 100]).run Tryz.prog W3 = .ok (.round l fn tmps assign body) W3:=hy;rw [hi] at hy2;exact ⟨fn,tmps,assign,body,hy2,hRn.mono fun e W' h=>h.imp (fun h=>⟨h.1,h.2.1⟩) id⟩
    rw [show FtV (firstL c r) = .tuple #[.agg #[.int .i64 0,.string ⟨#[]⟩,.int .i64 0],.int .i64 100] by unfold firstL;rw [ht];rfl] at hfi;have HFI:=Hi hfi;have hszw:=HH.out.2.2.2.box;have HBX:=Hi hszw;clear hpre hfi ht hcr hi hszw
    gi_wp2_with (refine ⟨trivial,?_⟩;gi_at_call 157;refine (callsIn_wide.2 HFI.out).mono ?_;rintro e w2 ⟨rfl,hb2⟩;obtain ⟨fn,tmps,assign,body,hy,hRn⟩:=HYX.out w2 hb2;have cb:w2.cell? ⟨Bx,0,none⟩=some (.string s):=(HBX.out.below hb2 hlt0).cell 0;have hlt2:Bx < w2.heap.size:=Nat.lt_of_lt_of_le hlt0 hb2.size;clear hb2)
    refine hRn.mono ?_;rintro e W3 (⟨rfl,hJ3⟩ | ⟨rfl,hJx3⟩)
    ·gi_wp2
     refine bodyPost_ret (results_none rfl _ _ _) rfl ?_;exact ⟨⟨_,rfl⟩,.inl ⟨_,HPR.out,hJ3⟩⟩
    ·gi_wp2
     refine bodyPost_ret (results_none rfl _ _ _) rfl ?_;exact V3S
   ·have hm:=q23 ht;have hrl:=q3c (f:=f) ht (by rw [<-hcr];exact HH.out.2.1);rw [hcr,q3a ht] at hpre;rw [<-hcr] at hpre hrl hm;have hdl:(R.drop m).length=R.length - m:=List.length_drop;have hsl:=q0D false (R.drop m);obtain ⟨D,hD⟩:∃ D,R.drop m=D:=⟨_,rfl⟩;rw [hD] at hpre hrl hdl hsl;have hX:(R.take m).length=m:=VV;obtain ⟨X,hXX⟩:∃ X,R.take m=X:=⟨_,rfl⟩;rw [hXX] at hpre hX;have hi2:i+m+skipL false D+(restL D).length=s.size:=by unfold restL;rw [List.length_drop];omega
    have hrd:(restL D).length < R.length:=by have:=q2z D;omega
    have hsf:∀ W,(Instr.slice 9 (.string ⟨R.toArray⟩) (some (.int .i64 (X.length:Int))) none none).run Tryz.prog W = .ok (.string ⟨D.toArray⟩) W:=fun W=>by
     have:=q33 R X.length (by rw [hX];omega) W;rw [hX,hD] at this;rw [hX];exact this
    have hXl:X.length<=R.length:=V0;have HPR:=Hi hpre;have HYX:Hid (∀ w2,Below wr.heap.size wr w2->∃ fn tmps assign body,(Instr.yield l #[.agg #[.int .i64 (k:Int),.string ⟨X.toArray⟩,.int .i64 ((s.size:Int) - (R.length:Int))],.int .i64 0]).run Tryz.prog (w2.alloc (.cells #[.int .i64 (k:Int),.string ⟨X.toArray⟩,.int .i64 ((s.size:Int) - (R.length:Int))] 63)) = .ok (.round l fn tmps assign body) (w2.alloc (.cells #[.int .i64 (k:Int),.string ⟨X.toArray⟩,.int .i64 ((s.size:Int) - (R.length:Int))] 63)) /\
      RoundIn Fence.wide (n - 1) Tryz.prog l fn tmps assign body (w2.alloc (.cells #[.int .i64 (k:Int),.string ⟨X.toArray⟩,.int .i64 ((s.size:Int) - (R.length:Int))] 63)) fun e W'=>(e = .returned (.bool true)/\J (pre ++ [(⟨k,X,i⟩,0)]) W'/\TkI lb Bx s W'/\W'.cell? ⟨w2.heap.size,1,none⟩=some (.string ⟨X.toArray⟩))\/(e = .returned (.bool false)/\Jx (pre ++ [(⟨k,X,i⟩,0)]) W')):=Hi fun w2 hb2=>by
     obtain ⟨W3,hW3⟩:∃ W3,w2.alloc (.cells #[.int .i64 (k:Int),.string ⟨X.toArray⟩,.int .i64 ((s.size:Int) - (R.length:Int))] 63)=W3:=⟨_,rfl⟩;have hb3:Below wr.heap.size wr W3:=by rw [<-hW3];exact hb2.alloc hb2.size _
     have hI2:=HH.out.2.2.2.below hb2;have hI3:=HH.out.2.2.2.below hb3;have hB3:Blk W3 w2.heap.size 63 #[.int .i64 (k:Int),.string ⟨X.toArray⟩,.int .i64 ((s.size:Int) - (R.length:Int))]:=by rw [<-hW3];exact Blk.new _ _ _
     have hna:¬ Arr W3 lb w2.heap.size:=fun ha=>by
      have e3:W3.heap[lb]?=w2.heap[lb]?:=by rw [<-hW3];exact Below.heap_alloc _ _ _ hI2.lt
      have:=hI2.wf _ ((q43 e3).1 ha);omega
     have hnl:w2.heap.size≠lb:=by have:=hI2.lt;omega
     rw [hW3];obtain ⟨fn,tmps,assign,body,hy,hRn⟩:=HY.out pre (⟨k,X,i⟩,0) W3 (HJ.out _ _ _ HH.out.2.2.1 (q1h hb3)) V14;have hy2:(Instr.yield l #[.agg #[.int .i64 (k:Int),.string ⟨X.toArray⟩,.int .i64 (i:Int)],.int .i64 0]).run Tryz.prog W3 = .ok (.round l fn tmps assign body) W3:=hy;rw [hi] at hy2;refine ⟨fn,tmps,assign,body,hy2,hRn.mono fun e W' h=>h.imp (fun h=>⟨h.1,h.2.1,hI3.ka h.2.2,?_⟩) id⟩;exact (show Blk W' w2.heap.size 63 _ from h.2.2.keep _ _ hnl hna hB3 rfl).cell 1
    rw [show FtV (firstL c r) = .tuple #[.agg #[.int .i64 (k:Int),.string ⟨X.toArray⟩,.int .i64 0],.int .i64 0] by unfold firstL;rw [ht];show FtV (some (k,(c :: r).take m))=_;rw [<-hcr,hXX];rfl] at hfi;have HFI:=Hi hfi;have hszw:=HH.out.2.2.2.box;have HBX:=Hi hszw;have HPD:=Hi (passed ⟨D.toArray⟩ V0n);have HR:Hid ((restL D).length < f):=Hi hrl;clear hpre hfi ht hcr hi hszw hX hXX hD hdl hsl hm hrl
    gi_wp2_with (refine ⟨trivial,?_⟩;gi_at_call 157;refine (callsIn_wide.2 HFI.out).mono ?_;rintro e w2 ⟨rfl,hb2⟩;obtain ⟨fn,tmps,assign,body,hy,hRn⟩:=HYX.out w2 hb2;have cb:w2.cell? ⟨Bx,0,none⟩=some (.string s):=(HBX.out.below hb2 hlt0).cell 0;have hlt2:Bx < w2.heap.size:=Nat.lt_of_lt_of_le hlt0 hb2.size;clear hb2)
    refine hRn.mono ?_;rintro e W3 (⟨rfl,hJ3,hI3,d1⟩ | ⟨rfl,hJx3⟩)
    ·gi_wp2_with (refine ⟨trivial,?_⟩;gi_at_call 156;refine (callsIn_wide.2 (HPD.out _)).mono ?_;rintro e w4 ⟨rfl,hb4⟩)
     have HJ4:=Hi (HJ.out _ _ _ hJ3 (q1h hb4));have HI4:=Hi (hI3.below hb4)
     go_roundw
     case rel=>exact ⟨pre ++ [(⟨k,X,i⟩,0)],restL D,f,i+m+skipL false D,rfl,hi2,Hi ⟨V14,HR.out,HJ4.out,HI4.out⟩⟩
     case measure=>
      show (⟨(restL D).toArray⟩:ByteArray).size < (⟨R.toArray⟩:ByteArray).size;rw [q1t,q1t];exact hrd
    ·gi_wp2
     refine bodyPost_ret (results_none rfl _ _ _) rfl ?_;exact ⟨⟨_,rfl⟩,.inr ⟨_,⟨goI f (restL D) (i+m+skipL false D),V14⟩,hJx3⟩⟩
theorem ptokens(s:ByteArray)(w:World):Calls Tryz.prog 126 #[.string s] w fun e w'=>e = .returned (.func (.func 155) #[] #[.pointer (some ⟨w.heap.size,0,none⟩)])/\w'=w.alloc (.cells #[.string s] 9):=by
 go_enter Tryz.func126,Tryz.ntmps126;go_wp2_with fail
 go_ret;exact ⟨rfl,rfl⟩
theorem q44(n:Nat)(hn:1<=n)(lb Bx:Nat)(s:ByteArray)(hs:s.size<=20000)(w:World)(hI:TkI lb Bx s w) :
  SeqStopsK Fence.wide n Tryz.prog 155 #[.pointer (some ⟨Bx,0,none⟩)] encT (KA lb) (fun ys=>ys=itemsL s.data.toList) (fun pre=>pre <+: itemsL s.data.toList) (itemsL s.data.toList).length w:=fun l J Jx W hW hJ _ hY h0=>
 tokens1 n hn l lb Bx s hs J Jx (fun pre A B h1 h2=>hJ pre A B none h1 h2 nofun) hY W (hI.below hW) h0
end
end Lx
namespace Rd
open Go
theorem oper_in{l n:Nat}{P:Program}{o:Oper}{a:Act}{w:World}{K:Act->World->Prop}{Q:Exit->Act->World->Prop}(hd:∀ c,o.op≠.defer c)(h:o.wp P a w K Q) :
  o.wpIn (Fence.wide.inRound l) n P a w K Q:=by
 unfold Oper.wp at h;unfold Oper.wpIn;refine ⟨fun _ _=>trivial,?_⟩;rw [show (Fence.wide.inRound l).round=some l from rfl,Oper.semAt_some l _ _ hd];generalize (execOp a.eval o).run P w=r at *;cases r with
 | ok x w'=>
  cases x <;> simp only [Oper.upon,Oper.uponIn] at h ⊢ <;>
   first
    | exact h
    | exact ⟨fun h=>(by cases h),callsIn_wide.2 h⟩
    | exact ⟨fun h=>(by cases h),fun c cs _=>by obtain ⟨v,w'',r1,r2⟩:=h c cs;exact ⟨v,w'',r1,stepsIn_wide.2 r2⟩⟩
    | exact h.elim
 | halt x w'=>cases x <;> simp only [Oper.upon,Oper.uponIn] at h ⊢ <;> first | exact h | exact h.elim
def noDefer(ops:Array Oper):Bool:=ops.toList.all fun o=>match o.op with | .defer _=>false | _=>true
theorem q5I{ops:Array Oper}(h:noDefer ops=true){j:Nat}{o:Oper}(ho:ops[j]?=some o):∀ c,o.op≠.defer c:=fun c hc=>by
 have hm:o∈ops.toList:=by
  rw [<-Array.getElem?_toList] at ho;exact List.mem_of_getElem? ho
 have:=List.all_eq_true.1 h o hm;rw [hc] at this;cases this
theorem any_in{l n:Nat}{P:Program}{md:Region.Mode}{ops:Array Oper}{Q:Exit->Act->World->Prop}(hd:noDefer ops=true)(hQ:¬ LetsOut Q) :
  ∀ (f:Nat) (listed:Array Bool) (a:Act) (w:World),wpAny P md ops Q f listed a w->wpAnyIn (Fence.wide.inRound l) n P md ops Q f listed a w
 | 0,listed,a,w,h=>h
 | f+1,listed,a,w,h=>⟨h.1,fun i hi=>by
  have h1:=wpOp_mono (fun a w h=>any_in (l:=l) (n:=n) hd hQ f _ a w h) (h.2 i hi);unfold wpOp at h1;unfold wpOpIn;cases ho:ops[i]? with
  | none=>rw [ho] at h1;exact h1
  | some o=>
   rw [ho] at h1;dsimp only at h1 ⊢;by_cases hw:Region.wanted o (yielded ops a.tmps)=true
   ·rw [if_pos hw] at h1 ⊢;rcases h1 with h1 | ⟨_,h1⟩
    ·exact oper_in (q5I hd ho) h1
    ·exact absurd h1 hQ
   ·rw [if_neg hw] at h1 ⊢;exact ⟨fun _ _=>trivial,h1⟩⟩
theorem region_in{l n:Nat}{P:Program}{ops:Array Oper}{Q:Exit->Act->World->Prop}{S:World->Prop}{id:Nat}{a:Act}{w:World}(hm:P.follows .mixedOrders=true)(hd:noDefer ops=true)(hQ:¬ LetsOut Q)(hS:S w.drew)
  (h:S w.drew->wpAnyH P .any ops Q S ops.size (Array.replicate ops.size false) a w.drew):(Code.region id ops true).wpIn (Fence.wide.inRound l) n P Q a w:=
 wpIn_region_any hm (any_in hd hQ _ _ _ _ (wpAny_of_held _ _ _ _ (h hS)))
end Rd
end Go.Proofs.YtcgibpdjfgjldaaGreatDoor
