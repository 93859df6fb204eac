/- DERIVED. RqDp, RqPr, NmBd, FlLaw, NmPr, FlCh, FlPg. By an AI agent. -/
import Derived.Test.YtcgibpdjfgjldaaGreatDoorT39
import Derived.Test.YtcgibpdjfgjldaaGreatDoorT40
set_option maxRecDepth 100000
set_option maxHeartbeats 2000000
set_option linter.unusedVariables false
set_option linter.unusedSimpArgs false
namespace Go.Proofs.YtcgibpdjfgjldaaGreatDoor
namespace Pq
open Go Go.ChangeShapes Go.WideShapes Go.ChangeAt Go.RowKit Lx Args Pa
section
attribute [local go_sem] fTk0 fTk1 fTk2
theorem q8N{w:World}{bp ba wy:Nat}{l:List Tk}(h:QS w bp l ba wy):∃ v0 v1,Blk w bp 60 #[v0,v1,.int .i64 (ba:Int),.int .i64 (wy:Int)]:=by
 obtain ⟨b,o,c,pre,_,h1,_⟩:=h;exact ⟨_,_,h1⟩
abbrev zV(a er:Nat):Value:=.tuple #[.agg zNd,.int .i64 (a:Int),.int .i64 (er:Int)]
theorem q7b(w:World)(bp ba wy:Nat)(t:Tk)(r:List Tk)(hp:QS w bp (t :: r) ba wy)(hw:wy≠0)(k a n la cA lb cB:Nat)(s:Bs)(A B:Option Addr) :
  Calls Tryz.prog 27 #[.pointer (some ⟨bp,0,none⟩),.agg #[.int .i64 (k:Int),.string ⟨s.toArray⟩,.int .u32 (n:Int),.int .i64 (a:Int),.slice A la cA,.slice B lb cB]] w fun e w'=>
   e = .returned (zV ba wy)/\Below w.heap.size w w':=by
 obtain ⟨w0,hw0,hb0,hX,hY⟩:=q4U w #[.int .i64 (k:Int),.string ⟨s.toArray⟩,.int .u32 (n:Int),.int .i64 (a:Int),.slice A la cA,.slice B lb cB];have HTK:=Hi (tok w0 bp ba wy t r (hp.below hb0));have hlt:=hp.lt;have HP0:=Hi (hp.below hb0);have HB0:=Hi hb0;have HY:=Hi hY;have HW:=Hi hw0;have hq:((wy:Int) != 0)=true:=V4;have hq2:((wy:Int)==0)=false:=V4;have HWY:=Hi hw;clear hp hb0 hX hY hw0 hw;go_enter Tryz.func27,Tryz.ntmps27;go_wp2_with fail
 rw [HW.out];refine HTK.out.mono ?_;rintro e w1 ⟨rfl,hb1⟩;have HP1:=Hi (HP0.out.below hb1);have HBD:=Hi fun b=>q0r w1 bp ba wy 100 b t r HP1.out (.inr HWY.out)
 have HB1:=Hi (HB0.out.trans (hb1.mono HB0.out.size));have HY1:=Hi (HY.out.below hb1 HY.out.lt);have HPZ:=HP1;obtain ⟨b',o,c,n',hn,hl,hc,hm,⟨c0,c1,c2,c3⟩,⟨u0,u1,u2,u3⟩,f4,f5,f6⟩:=HP1.out.head;have hbl:=HP1.out.lt;clear hb1 hn hl hc hm f4 f5 f6;go_wp2_with fail
 refine (HBD.out _).mono ?_;rintro e w' ⟨rfl,rfl⟩;obtain ⟨⟨g0,g1,g2,g3,g4,g5⟩,y0,y1,y2,y3,y4,y5⟩:=Blk.c6 HY1.out;have hyl:=HY1.out.lt;go_wp2_with fail
 have hdr:Below w1.heap.size w1 w1.drew:=q0f (Below.refl _ _) 1;have HY2:=Hi (HY1.out.below hdr hyl);have HB2:=Hi (HB1.out.trans (hdr.mono HB1.out.size));clear hdr;have hne:bp≠w.heap.size+1:=V0;obtain ⟨v0,v1,hZB⟩:=q8N HPZ.out;have hZ0:Blk w1.drew bp 60 #[v0,v1,.int .i64 (ba:Int),.int .i64 (wy:Int)]:=hZB;have HZB:=Hi hZB;clear hZB;refine HT.wp_region (Z:=fun w'=>Blk w' bp 60 #[v0,v1,.int .i64 (ba:Int),.int .i64 (wy:Int)]) (S:=fun _=>True) (st:=[]) V1 ?_;refine HT.takeP (i:=0) (v:=?_) rfl V1 V1 V1 V1 (fun _ _ _ h=>h) (Or.inl ⟨V5,?_⟩) hZ0 (fun _=>trivial) ?_;rotate_left
 ·exact Vd
 (try simp only [HT.pS]);refine HT.takeP (i:=1) (v:=?_) rfl V1 V1 V1 V1 (fun _ _ _ h=>h) (Or.inl ⟨V5,?_⟩) hZ0 (fun _=>trivial) ?_;rotate_left
 ·exact Vd
 (try simp only [HT.pS]);refine HT.takeP (i:=2) (v:=?_) rfl V1 V1 V1 V1 (fun _ _ _ h=>h) (Or.inl ⟨V5,?_⟩) hZ0 (fun _=>trivial) ?_;rotate_left
 ·exact Vd
 (try simp only [HT.pS]);refine HT.takeP (i:=3) (v:=?_) rfl V1 V1 V1 V1 (fun _ _ _ h=>h) (Or.inl ⟨V5,?_⟩) hZ0 (fun _=>trivial) ?_;rotate_left
 ·exact Vd
 (try simp only [HT.pS]);refine HT.takeP (i:=4) (v:=?_) rfl V1 V1 V1 V1 (fun _ _ _ h=>h) (Or.inl ⟨V5,?_⟩) hZ0 (fun _=>trivial) ?_;rotate_left
 ·exact Vd
 (try simp only [HT.pS]);refine HT.takeP (i:=5) (v:=?_) rfl V1 V1 V1 V1 (fun _ _ _ h=>h) (Or.inl ⟨V5,?_⟩) hZ0 (fun _=>trivial) ?_;rotate_left
 ·exact Vd
 (try simp only [HT.pS]);refine HT.takeP (i:=6) (v:=?_) rfl V1 V1 V1 V1 (fun _ _ _ h=>h) (Or.inl ⟨V5,?_⟩) hZ0 (fun _=>trivial) ?_;rotate_left
 ·exact Vd
 (try simp only [HT.pS]);refine HT.takeP (i:=7) (v:=?_) rfl V1 V1 V1 V1 (fun _ _ _ h=>h) (Or.inl ⟨V5,?_⟩) hZ0 (fun _=>trivial) ?_;rotate_left
 ·exact Vd
 (try simp only [HT.pS]);refine HT.takeP (i:=8) (v:=?_) rfl V1 V1 V1 V1 (fun _ _ _ h=>h) (Or.inl ⟨V5,?_⟩) hZ0 (fun _=>trivial) ?_;rotate_left
 ·exact Vd
 (try simp only [HT.pS]);refine HT.one (i:=9) V1 rfl (fun K hK=>?_);go_simp;refine hK.out _ _ VT trivial ?_;clear hK K;(try simp only [HT.pS]);refine HT.one (i:=10) V1 rfl (fun K hK=>?_);go_simp;refine hK.out _ _ VT trivial ?_;clear hK K;(try simp only [HT.pS]);refine HT.one (i:=11) V1 rfl (fun K hK=>?_);go_simp;refine hK.out _ _ VT trivial ?_;clear hK K;(try simp only [HT.pS]);refine HT.done V1 ?_;dsimp only [Exit.then];go_wp2_with fail
 exact bodyPost_ret (v:=zV ba wy) (q1j rfl _ _ rfl (Blk.drew (Blk.put6 HY1.out _ _ _ _ _ _)) rfl rfl rfl) rfl ⟨rfl,((((((HB1.out.setCell (Nat.le_succ _) _).setCell (Nat.le_succ _) _).setCell (Nat.le_succ _) _).setCell (Nat.le_succ _) _).setCell (Nat.le_succ _) _).setCell (Nat.le_succ _) _).drew⟩
theorem q7c(w:World)(bp:Nat)(t:Tk)(r:List Tk)(hp:QS w bp (t :: r) 0 0)(hk:t.k≠0)(k a n la cA lb cB:Nat)(s:Bs)(A B:Option Addr) :
  Calls Tryz.prog 27 #[.pointer (some ⟨bp,0,none⟩),.agg #[.int .i64 (k:Int),.string ⟨s.toArray⟩,.int .u32 (n:Int),.int .i64 (a:Int),.slice A la cA,.slice B lb cB]] w fun e w'=>
   e = .returned (zV t.at_ 100)/\UB bp w w':=by
 obtain ⟨w0,hw0,hb0,hX,hY⟩:=q4U w #[.int .i64 (k:Int),.string ⟨s.toArray⟩,.int .u32 (n:Int),.int .i64 (a:Int),.slice A la cA,.slice B lb cB];have hlt:=hp.lt;have HTK:=Hi (tok w0 bp 0 0 t r (hp.below hb0));have HP0:=Hi (hp.below hb0);have HB0:=Hi hb0;have HY:=Hi hY;have HW:=Hi hw0;have hq:((t.k:Int) != 0)=true:=V4;clear hp hb0 hX hY hw0;go_enter Tryz.func27,Tryz.ntmps27;go_wp2_with fail
 rw [HW.out];refine HTK.out.mono ?_;rintro e w1 ⟨rfl,hb1⟩;have HBD:=Hi (q1w w1 bp 100 t r (HP0.out.below hb1));have HU1:=Hi ((q00 (bp:=bp) HB0.out).trans (q00 hb1));have HY1:=Hi (HY.out.below hb1 HY.out.lt);clear hb1;go_wp2_with fail
 refine HBD.out.mono ?_;rintro e w3 ⟨rfl,hp3,hu3⟩;have HPZ:=Hi hp3;obtain ⟨b',o,c,n',hn,hl,hc,hm,⟨c0,c1,c2,c3⟩,⟨u0,u1,u2,u3⟩,f4,f5,f6⟩:=hp3.head;have hbl:=hp3.lt;have HU3:=Hi (HU1.out.trans hu3);have HY3:=Hi (HY1.out.upd hu3 (show ¬ w.heap.size+1=bp from V0));clear hp3 hu3 hn hl hc hm f4 f5 f6;obtain ⟨⟨g0,g1,g2,g3,g4,g5⟩,y0,y1,y2,y3,y4,y5⟩:=Blk.c6 HY3.out;have hyl:=HY3.out.lt;go_wp2_with fail
 have hdr:Below w3.heap.size w3 w3.drew:=q0f (Below.refl _ _) 1;have HY2:=Hi (HY3.out.below hdr hyl);have HU2:=Hi (HU3.out.trans (q00 hdr));clear hdr;have hne:bp≠w.heap.size+1:=V0;obtain ⟨v0,v1,hZB⟩:=q8N HPZ.out;have hZ0:Blk w3.drew bp 60 #[v0,v1,.int .i64 (t.at_:Int),.int .i64 (100:Int)]:=hZB;have HZB:=Hi (show Blk w3 bp 60 #[v0,v1,.int .i64 (t.at_:Int),.int .i64 (100:Int)] from hZB);clear hZB;refine HT.wp_region (Z:=fun w'=>Blk w' bp 60 #[v0,v1,.int .i64 (t.at_:Int),.int .i64 (100:Int)]) (S:=fun _=>True) (st:=[]) V1 ?_;refine HT.takeP (i:=0) (v:=?_) rfl V1 V1 V1 V1 (fun _ _ _ h=>h) (Or.inl ⟨V5,?_⟩) hZ0 (fun _=>trivial) ?_;rotate_left
 ·exact Vd
 (try simp only [HT.pS]);refine HT.takeP (i:=1) (v:=?_) rfl V1 V1 V1 V1 (fun _ _ _ h=>h) (Or.inl ⟨V5,?_⟩) hZ0 (fun _=>trivial) ?_;rotate_left
 ·exact Vd
 (try simp only [HT.pS]);refine HT.takeP (i:=2) (v:=?_) rfl V1 V1 V1 V1 (fun _ _ _ h=>h) (Or.inl ⟨V5,?_⟩) hZ0 (fun _=>trivial) ?_;rotate_left
 ·exact Vd
 (try simp only [HT.pS]);refine HT.takeP (i:=3) (v:=?_) rfl V1 V1 V1 V1 (fun _ _ _ h=>h) (Or.inl ⟨V5,?_⟩) hZ0 (fun _=>trivial) ?_;rotate_left
 ·exact Vd
 (try simp only [HT.pS]);refine HT.takeP (i:=4) (v:=?_) rfl V1 V1 V1 V1 (fun _ _ _ h=>h) (Or.inl ⟨V5,?_⟩) hZ0 (fun _=>trivial) ?_;rotate_left
 ·exact Vd
 (try simp only [HT.pS]);refine HT.takeP (i:=5) (v:=?_) rfl V1 V1 V1 V1 (fun _ _ _ h=>h) (Or.inl ⟨V5,?_⟩) hZ0 (fun _=>trivial) ?_;rotate_left
 ·exact Vd
 (try simp only [HT.pS]);refine HT.takeP (i:=6) (v:=?_) rfl V1 V1 V1 V1 (fun _ _ _ h=>h) (Or.inl ⟨V5,?_⟩) hZ0 (fun _=>trivial) ?_;rotate_left
 ·exact Vd
 (try simp only [HT.pS]);refine HT.takeP (i:=7) (v:=?_) rfl V1 V1 V1 V1 (fun _ _ _ h=>h) (Or.inl ⟨V5,?_⟩) hZ0 (fun _=>trivial) ?_;rotate_left
 ·exact Vd
 (try simp only [HT.pS]);refine HT.takeP (i:=8) (v:=?_) rfl V1 V1 V1 V1 (fun _ _ _ h=>h) (Or.inl ⟨V5,?_⟩) hZ0 (fun _=>trivial) ?_;rotate_left
 ·exact Vd
 (try simp only [HT.pS]);refine HT.one (i:=9) V1 rfl (fun K hK=>?_);go_simp;refine hK.out _ _ VT trivial ?_;clear hK K;(try simp only [HT.pS]);refine HT.one (i:=10) V1 rfl (fun K hK=>?_);go_simp;refine hK.out _ _ VT trivial ?_;clear hK K;(try simp only [HT.pS]);refine HT.one (i:=11) V1 rfl (fun K hK=>?_);go_simp;refine hK.out _ _ VT trivial ?_;clear hK K;(try simp only [HT.pS]);refine HT.done V1 ?_;dsimp only [Exit.then];go_wp2_with fail
 exact bodyPost_ret (v:=zV t.at_ 100) (q1j rfl _ _ rfl (Blk.drew (Blk.put6 HY3.out _ _ _ _ _ _)) rfl rfl rfl) rfl ⟨rfl,(q02 HU3.out (fun h=>absurd h V0) _ _ _ _ _ _).drew⟩
theorem q4V{R:List Tk->Out->Prop}{s:ByteArray}{w w':World}{a er:Nat}(h:BadR R (wordsL s.data.toList) a er)(hb:Below w.heap.size w w'):RdP R s w (.returned (zV a er)) w':=.inr ⟨a,er,rfl,h,hb⟩
theorem qs_new{w:World}{A:Option Addr}{c:Nat}{l:List Tk}(hg:Gt l)(hL:Lies w A (l.flatMap tkC)):QS (w.alloc (.cells #[.slice A l.length c,.int .i64 0,.int .i64 0,.int .i64 0] 60)) w.heap.size l 0 0:=by
 obtain ⟨t,r,rfl⟩:=hg.cons;obtain ⟨b,o,rfl,hb,_⟩:=hL.at_ (j:=0) (u:=.int .i64 (t.k:Int)) rfl;exact ⟨b,o,c,[],hb,by simpa using Blk.new w 60 #[.slice (some ⟨b,o,none⟩) (t :: r).length c,.int .i64 0,.int .i64 0,.int .i64 0],hL.below ((Below.refl _ _).alloc (Nat.le_refl _) _),by simpa using hg.few⟩
end
end Pq
end Go.Proofs.YtcgibpdjfgjldaaGreatDoor
namespace Go.Proofs.YtcgibpdjfgjldaaGreatDoor.Pa
open Go Go.RowKit Lx Args
theorem own_updV{X:Nat->Prop}{w w':World}{base:Nat}{e:TypeId}{size n:Nat}{v:Value}{xs:List Value}(h:w.ownsRow base e size v n xs)(hu:Upd X w w')(hX:∀ g,v.ownBlock=some g->¬ X g):w'.ownsRow base e size v n xs:=by
 obtain ⟨h1,h2⟩:=h;refine ⟨h1,?_⟩;rcases h2 with h2 | ⟨g,cap,cur,e1,h3,h4,h5⟩
 ·exact .inl h2
 ·exact V35
theorem own_atV{w:World}{lo:Nat}{e:TypeId}{size n:Nat}{v:Value}{xs:List Value}(h:w.ownsRow lo e size v n xs):∀ g,v.ownBlock=some g->lo<=g/\g < w.heap.size:=fun g hg=>by
 rcases h.2 with ⟨h,_⟩ | ⟨g',cap,cur,h,hb,hh,_⟩
 ·rw [h] at hg;cases hg
 ·rw [h] at hg;cases hg;exact V1R
def ArrV(e:TypeId)(lo:Nat)(w:World)(v:Value)(xs:List Tr):Prop:=∃ css,w.ownsRow lo e 6 v xs.length css.flatten/\TsIn (fun b=>lo<=b/\v.ownBlock≠some b) w xs css
theorem ArrV.nil(e:TypeId)(lo:Nat)(w:World):ArrV e lo w (.slice none 0 0) []:=⟨[],World.ownsRow_nil _ _ _ _,V0z⟩
theorem ArrV.upd{X:Nat->Prop}{e:TypeId}{lo:Nat}{w w':World}{v:Value}{xs:List Tr}(h:ArrV e lo w v xs)(hu:Upd X w w')(hX:∀ b,X b->b < lo):ArrV e lo w' v xs:=by
 obtain ⟨css,h1,h2⟩:=h;exact ⟨css,own_updV h1 hu fun g hg hx=>by have:=own_atV h1 g hg;have:=hX g hx;omega,h2.upd hu fun b hb hx=>V10⟩
theorem ArrV.node{e:TypeId}{lo:Nat}{w:World}{A:Option Addr}{c:Nat}{xs:List Tr}(h:ArrV e lo w (.slice A xs.length c) xs)(hl:xs.length<=100000)(k a n:Nat)(s:Bs):TIn (fun b=>lo<=b) w (.mk k a s n [] xs) (ndC k a s n A xs.length c none 0 0):=by
 obtain ⟨css,h1,h2⟩:=h;unfold TIn;refine ⟨_,_,none,0,rfl,own_cap h1 hl,⟨V3,V3,V2⟩,Lies.nil _ _,fun b o e=>VH,css,?_,fun b o e hne=>?_,h2.mono fun b hb _=>hb.1⟩
 ·rcases h1.2 with ⟨h,h0⟩ | ⟨g',cap,cur,h,_⟩
  ·have:xs=[]:=List.eq_nil_of_length_eq_zero h0;subst this;unfold TsIn at h2;subst h2;exact Lies.nil _ _
  ·cases h;exact fun j u hj=>⟨_,rfl,h1.cells (g:=g') rfl j u hj⟩
 ·subst e;rcases h1.2 with ⟨h,h0⟩ | ⟨g',cap,cur,h,hb,_⟩
  ·cases h
  ·cases h;exact hb
end Go.Proofs.YtcgibpdjfgjldaaGreatDoor.Pa
namespace Go.Proofs.YtcgibpdjfgjldaaGreatDoor.Pq
open Go Go.ChangeShapes Go.WideShapes Go.ChangeAt Go.RowKit Lx Args Pa
attribute [local go_sem] fTk0 fTk1 fTk2
end Go.Proofs.YtcgibpdjfgjldaaGreatDoor.Pq
namespace Go.Proofs.YtcgibpdjfgjldaaGreatDoor
namespace Nm
open Go Lx Pa Sh
theorem q7d(base:Nat):∀ (l:List UInt8) (n m:Nat),n<=4294967296->Num.nrun base l n=some m->m<=4294967296
 | [],n,m,h,e=>by
  unfold Num.nrun at e;cases e;exact h
 | c :: l,n,m,h,e=>by
  unfold Num.nrun at e;split at e
  ·exact q7d base l _ m (Nat.min_le_right ..) e
  ·cases e
theorem q4W(b:Bs):(numV b).1 < 4294967296:=by
 unfold numV Num.numR;split
 ·decide
 ·split
  ·decide
  ·next h=>
   have:=q7d _ _ _ _ V2 h;split
   ·decide
   ·simp only;omega
def pw:List Bs->Nat
 | []=>0
 | p :: ps=>p.length+1+pw ps
mutual
def wt:Tr->Nat
 | .mk _ _ s _ ps l=>1+s.length+pw ps+wts l
def wts:List Tr->Nat
 | []=>0
 | x :: l=>wt x+wts l
end
def tw:List Tk->Nat
 | []=>0
 | t :: l=>t.s.length+1+tw l
theorem q7e:∀ (a b:List Bs),pw (a ++ b)=pw a+pw b
 | [],b=>by simp [pw]
 | p :: a,b=>by
  show p.length+1+pw (a ++ b)=p.length+1+pw a+pw b;rw [q7e a b];omega
theorem q2R:∀ (a b:List Tr),wts (a ++ b)=wts a+wts b
 | [],b=>by simp [wts]
 | x :: a,b=>by
  show wt x+wts (a ++ b)=wt x+wts a+wts b;rw [q2R a b];omega
theorem wt_put(x:Tr)(a:Nat):wt (x.put a)=wt x:=by cases x;rfl
theorem q7f(a:Nat):∀ l:List Tr,wts (l.map (·.put a))=wts l
 | []=>rfl
 | x :: l=>by
  show wt (x.put a)+wts (l.map _)=wt x+wts l;rw [wt_put,q7f a l]
def baseN:NT->Nat
 | .more _ x=>wt x
 | .args l=>wts l
 | .fin _ _ s ps=>1+s.length+pw ps
 | .inners l=>wts l
 | .stmts l=>wts l
 | _=>0
def sglN:NT->Prop
 | .lev _=>True
 | .more _ _=>True
 | _=>False
def Ct(p:Prop)(b:Nat):OO->Prop
 | some (.ok xs r)=>wts xs+tw r<=b/\(p->∃ x l,xs=x :: l)
 | _=>True
section
variable {p p' : Prop} {b b' : Nat}
theorem q1k(l:List Tk)(e:Nat):Ct p b (wrong l e):=trivial
theorem q0T{c:Prop}[Decidable c]{o q:OO}(h1:c->Ct p b o)(h2:¬ c->Ct p b q):Ct p b (if c then o else q):=by
 by_cases h:c
 ·rw [if_pos h];exact h1 h
 ·rw [if_neg h];exact h2 h
theorem q1b{o:OO}{f:List Tr->List Tk->OO}(h:Ct p b o)(hf:∀ xs r,wts xs+tw r<=b->(p->∃ x l,xs=x :: l)->Ct p' b' (f xs r)):Ct p' b' (bnd o f):=by
 rcases o with _ | ⟨xs,r⟩ | ⟨a,e⟩
 ·trivial
 ·exact hf xs r h.1 h.2
 ·trivial
theorem q4u{o:OO}(h:Ct p b o)(hb:b<=b')(hp:p'->p):Ct p' b' o:=by
 rcases o with _ | ⟨xs,r⟩ | ⟨a,e⟩
 ·trivial
 ·exact ⟨Nat.le_trans h.1 hb,fun h'=>h.2 (hp h')⟩
 ·trivial
theorem ct_ok{xs:List Tr}{r:List Tk}(h:wts xs+tw r<=b)(hp:p->∃ x l,xs=x :: l):Ct p b (some (.ok xs r)):=⟨h,hp⟩
theorem q0C{s:Bs}{l:List Tk}{f:List Tk->OO}(hf:∀ r,tw r+1<=tw l->Ct p b (f r)):Ct p b (must s l f):=by
 cases l with
 | nil=>trivial
 | cons t r=>exact q0T (fun _=>hf r (by show tw r+1<=t.s.length+1+tw r;omega)) fun _=>q1k _ _
theorem q2g{l:List Tk}{f:Bs->List Tk->OO}(hf:∀ s r,s.length+1+tw r=tw l->Ct p b (f s r)):Ct p b (nameK l f):=by
 cases l with
 | nil=>trivial
 | cons t r=>exact q0T (fun hk=>hf t.s r rfl) fun _=>q1k _ _
theorem q3C{f:List Bs->List Tk->OO}{c:Nat}(hf:∀ ps r,pw ps+tw r<=c->Ct p b (f ps r)):∀ (ps:List Bs) (l:List Tk),pw ps+tw l<=c->Ct p b (namesK ps l f)
 | _,[],_=>trivial
 | ps,[t],h=>by
  unfold namesK;refine q0T (fun hk=>hf _ _ ?_) fun _=>q1k _ _
  rw [q7e];have:tw [t]=t.s.length+1+tw []:=rfl;show pw ps+(t.s.length+1+0)+tw []<=c;omega
 | ps,t :: u :: r,h=>by
  unfold namesK;have e:tw (t :: u :: r)=t.s.length+1+(u.s.length+1+tw r):=rfl;have e2:pw (ps ++ [t.s])=pw ps+(t.s.length+1+0):=q7e _ _;have e3:tw (u :: r)=u.s.length+1+tw r:=rfl;refine q0T (fun hk=>q0T (fun _=>q3C hf _ r V0) fun _=>hf _ _ V0) fun _=>q1k _ _
end
theorem q0U(x:Tr):wts [x]=wt x:=by show wt x+0=_;omega
theorem q0V(t:Tk)(l:List Tk):tw (t :: l)=t.s.length+1+tw l:=rfl
theorem q2v(x:Tr)(l:List Tr):wts (x :: l)=wt x+wts l:=rfl
theorem q2h(k a:Nat)(s:Bs)(n:Nat)(ps:List Bs)(l:List Tr):wt (.mk k a s n ps l) = 1+s.length+pw ps+wts l:=rfl
theorem q1z:pw [] = 0:=rfl
theorem q3D:wts [] = 0:=rfl
theorem q4X{num:Bs->Nat×Nat}:∀ (f:Nat) (nt:NT) (d:Nat) (l:List Tk),Ct (sglN nt) (baseN nt+tw l) (pF num f nt d l):=by
 intro f
 induction f with
 | zero=>intros;trivial
 | succ f ih=>
  intro nt d l;cases nt with
  | lev n=>
   unfold pF;refine q0T (fun _=>q1b (ih (.lev (n+1)) _ _) fun xs r hx hs=>?_) fun _=>?_
   ·obtain ⟨x,m,rfl⟩:=hs trivial;refine q4u (ih (.more n x) _ _) ?_ (fun h=>h);simp only [baseN,q2v] at hx ⊢;omega
   cases l with
   | nil=>trivial
   | cons t r=>
   refine q0T (fun _=>q1k _ _) fun _=>q0T (fun hs=>?_) fun _=>q0T (fun hk=>?_) fun _=>q0T (fun hs=>?_) fun _=>q2g fun s r hs=>?_
   ·refine q1b (ih (.lev 5) _ _) fun xs r' hx _=>⟨?_,fun _=>⟨_,_,rfl⟩⟩
    simp only [baseN] at hx;simp only [baseN,q0U,q2h,q0V,q1z];omega
   ·refine q0T (fun _=>⟨?_,fun _=>⟨_,_,rfl⟩⟩) fun _=>q1k _ _
    simp only [baseN,q0U,q2h,q0V,q1z,q3D,List.length_nil];omega
   ·refine q1b (ih (.lev 0) _ _) fun xs r' hx hs=>q0C fun r2 hr2=>⟨?_,fun _=>?_⟩
    ·rw [q7f];simp only [baseN] at hx;simp only [baseN,q0V];omega
    ·obtain ⟨x,m,rfl⟩:=hs trivial;exact ⟨_,_,rfl⟩
   ·cases r with
    | nil=>
     refine ⟨?_,fun _=>⟨_,_,rfl⟩⟩;simp only [baseN,q0U,q2h,q1z,q3D];omega
    | cons u r'=>
     refine q0T (fun hu=>?_) fun _=>⟨?_,fun _=>⟨_,_,rfl⟩⟩
     ·refine q1b (ih (.lev 0) _ _) fun xs r2 hx _=>q1b (ih (.args xs) _ _) fun ys r3 hy _=>q0C fun r4 hr4=>⟨?_,fun _=>⟨_,_,rfl⟩⟩
      simp only [baseN] at hx hy;simp only [q0V] at hs;simp only [baseN,q0U,q2h,q1z,q0V];omega
     ·simp only [baseN,q0U,q2h,q1z,q3D];omega
  | more n x=>
   unfold pF;cases l with
   | nil=>exact ⟨by simp only [baseN,q0U];omega,fun _=>⟨_,_,rfl⟩⟩
   | cons t r=>
    refine q0T (fun hs=>q1b (ih (.lev (n+1)) _ _) fun ys r' hy _=>?_) fun _=>⟨by simp only [baseN,q0U];omega,fun _=>⟨_,_,rfl⟩⟩
    refine q4u (ih (.more n (.mk (if n = 3 then 4 else 3) x.place t.s 0 [] (x :: ys))) d r') ?_ (fun h=>h);simp only [baseN] at hy;simp only [baseN,q2h,q2v,q1z,q0V];omega
  | args xs=>
   unfold pF;cases l with
   | nil=>exact ⟨V0v,fun h=>h.elim⟩
   | cons t r=>
    refine q0T (fun hs=>q1b (ih (.lev 0) _ _) fun ys r' hy _=>?_) fun _=>⟨V0v,fun h=>h.elim⟩
    refine q4u (ih (.args (xs ++ ys)) d r') ?_ (fun h=>h);simp only [baseN] at hy;simp only [baseN,q2R,q0V];omega
  | fin k a s ps=>
   unfold pF;refine q1b (ih (.lev 0) _ _) fun xs r hx _=>q0C fun r' hr'=>⟨?_,fun h=>h.elim⟩
   simp only [baseN] at hx;simp only [baseN,q0U,q2h];omega
  | inner=>
   unfold pF;cases l with
   | nil=>trivial
   | cons t r=>
    refine q0T (fun _=>q1k _ _) fun _=>q0T (fun hs=>?_) fun _=>q2g fun s r hs=>q0C fun r2 hr2=>?_
    ·refine q2g fun s r1 hs=>q0C fun r2 h2=>q1b (ih (.lev 0) _ _) fun xs r3 hx _=>q0C fun r4 h4=>q1b (ih (.lev 0) _ _) fun ys r5 hy _=>q0C fun r6 h6=>q1b (ih (.inners (xs ++ ys)) _ _) fun zs r7 hz _=>⟨?_,fun h=>h.elim⟩
     simp only [baseN,q2R] at hx hy hz;simp only [baseN,q0U,q2h,q1z,q0V];omega
    ·refine q4u (ih (.fin 10 t.at_ s []) d r2) ?_ (fun h=>h);simp only [baseN,q1z];omega
  | inners zs=>
   unfold pF;cases l with
   | nil=>trivial
   | cons t r=>
    refine q0T (fun _=>⟨?_,fun h=>h.elim⟩) fun _=>q1b (ih .inner _ _) fun xs r' hx _=>?_
    ·simp only [baseN,q0V];omega
    ·refine q4u (ih (.inners (zs ++ xs)) d r') ?_ (fun h=>h);simp only [baseN] at hx;simp only [baseN,q2R];omega
  | stmt=>
   unfold pF;cases l with
   | nil=>trivial
   | cons t r=>
    have fin:∀ (k:Nat) (s:Bs) (ps:List Bs) (r2:List Tk),1+s.length+pw ps+tw r2<=tw (t :: r)->Ct (sglN .stmt) (baseN .stmt+tw (t :: r)) (pF num f (.fin k t.at_ s ps) d r2):=fun k s ps r2 h=>q4u (ih (.fin k t.at_ s ps) d r2) V0v (fun h=>h)
    have e0:=q0V t r;refine q0T (fun _=>?_) fun _=>q0T (fun _=>?_) fun _=>q0T (fun _=>?_) fun _=>q0T (fun _=>?_) fun _=>q0T (fun _=>?_) fun _=>?_
    ·exact V2O
    ·exact V2O
    ·exact q2g fun s r1 h1=>q0C fun r2 h2=>fin 8 s [] r2 V0V
    ·exact q2g fun s r1 h1=>q0C fun r2 h2=>fin 9 s [] r2 V0V
    ·exact q2g fun s r1 h1=>q0C fun r2 h2=>q3C (c:=tw r2) (fun ps r3 h3=>q0C fun r4 h4=>q0C fun r5 h5=>fin 12 s ps r5 V0) [] r2 V0V
    ·exact q4u (ih .inner 0 (t :: r)) V0v (fun h=>h)
  | stmts xs=>
   unfold pF;cases l with
   | nil=>trivial
   | cons t r=>
    refine q0T (fun _=>⟨V0v,fun h=>h.elim⟩) fun _=>q1b (ih .stmt _ _) fun ys r' hy _=>?_
    refine q4u (ih (.stmts (xs ++ ys)) d r') ?_ (fun h=>h);simp only [baseN] at hy;simp only [baseN,q2R];omega
theorem tw_le(b:Nat):∀ (l:List Tk),(∀ t∈l,t.s.length<=b)->tw l<=l.length * (b+1)
 | [],_=>by simp [tw]
 | t :: l,h=>by
  have h1:=tw_le b l fun u hu=>h u (by simp [hu])
  have h2:=h t V3;rw [q0V,List.length_cons,Nat.succ_mul];omega
theorem q3E{s:Bs}(h:(wordsL s).er = 0):tw (wordsL s).l<=80004000:=by
 obtain ⟨_,h2,h3⟩:=q2u h;have h1:=tw_le 20000 (wordsL s).l fun t ht=>(h2 t ht).2
 have:(wordsL s).l.length * 20001<=4000 * 20001:=Nat.mul_le_mul_right _ h3;omega
theorem q8O:∀ {ps:List Bs} {p:Bs},p∈ps->p.length<=pw ps
 | q :: ps,p,h=>by
  show _<=q.length+1+pw ps;rcases List.mem_cons.1 h with rfl | h
  ·omega
  ·have:=q8O h;omega
theorem q8P:∀ ps:List Bs,ps.length<=pw ps
 | []=>Nat.le_refl _
 | p :: ps=>by
  have:=q8P ps;show ps.length+1<=p.length+1+pw ps;omega
mutual
theorem q4Y:∀ (x:Tr),wt x<=maxLen->lenz (embz x)
 | .mk k a s n ps l,h=>by
  rw [q2h] at h;unfold embz lenz;exact ⟨V0,fun p hp=>by have:=q8O hp;omega,q5B l V0⟩
theorem q5B:∀ (l:List Tr),wts l<=maxLen->lenzs (embs l)
 | [],_=>by unfold embs lenzs;trivial
 | x :: l,h=>by
  rw [q2v] at h;unfold embs lenzs;exact ⟨q4Y x V0,q5B l V0⟩
end
mutual
theorem q8Q:∀ (x:Tr),nbz (embz x)<=wt x
 | .mk k a s n ps l=>by
  rw [q2h];have:=q7g l;have:=q8P ps;unfold embz nbz;omega
theorem q7g:∀ (l:List Tr),nbzs (embs l)<=wts l
 | []=>by unfold embs nbzs;exact Nat.zero_le _
 | x :: l=>by
  rw [q2v];have:=q8Q x;have:=q7g l;unfold embs nbzs;omega
end
theorem q8R{s:Bs}{x:Tr}{t:Tk}{r:List Tk}(he:(wordsL s).er = 0)(h:ProgR (wordsL s).l (.ok [x] (t :: r))):lenz (embz x)/\nbz (embz x)<=1099511627776/\okPs 0 (lz (embz x)):=by
 obtain ⟨zs,e1,h1,_⟩:=h;simp only [List.cons.injEq,and_true] at e1;subst e1;obtain ⟨f,hf⟩:=h1.at_;have hm:=q4X (num:=numV) f (.stmts []) 0 (wordsL s).l;rw [hf] at hm;have hw:=q3E he;have hm1:=hm.1;have hwz:wts zs<=80004000:=by
  have:baseN (.stmts []) = 0:=rfl;omega
 refine ⟨q4Y _ ?_,?_,?_⟩
 ·rw [q2h];simp only [q1z,List.length_nil];unfold maxLen;omega
 ·exact V3h
 ·have hg:=q4D (num:=numV) (Q:=fun _=>True) q4W f (.stmts []) 0 (wordsL s).l trivial (fun _ _ _=>trivial);rw [hf] at hg;obtain ⟨ys,e,hy⟩:=hg.1;have:zs=ys:=V0A;subst this;show okPs 0 (embs zs);exact q6u hy
theorem q3F{l:List Tk}{x x':Tr}{t t':Tk}{r r':List Tk}(h:ProgR l (.ok [x] (t :: r)))(h':ProgR l (.ok [x'] (t' :: r'))):x=x':=by
 obtain ⟨zs,e1,h1,_⟩:=h;obtain ⟨zs',e2,h2,_⟩:=h';have:=Rd.one h1 h2;cases this;simp only [List.cons.injEq,and_true] at e1 e2;rw [e1,e2]
theorem q4Z{l:Wd}{x:Tr}{t:Tk}{r:List Tk}{a er:Nat}(he:l.er = 0)(h:ProgR l.l (.ok [x] (t :: r)))(h':BadR ProgR l a er):False:=by
 obtain ⟨zs,e1,h1,t1,r1,e2,hk⟩:=h;rcases h' with ⟨h,_⟩ | ⟨_,h | ⟨xs,t',r',h,hk',_⟩⟩
 ·exact h he
 ·have:=Rd.one (show Rd numV (.stmts []) 0 l.l (.bad a er) from h) h1;cases this
 ·obtain ⟨zs',e3,h3,_⟩:=h;have:=Rd.one h1 h3;simp only [Out.ok.injEq] at this;rw [e2] at this;cases this.2;exact hk' hk
theorem prog_er{s:Bs}{a er:Nat}(h:BadR ProgR (wordsL s) a er):er≠0:=by
 rcases h with ⟨h,_,rfl⟩ | ⟨h0,h | ⟨_,_,_,_,_,_,rfl⟩⟩
 ·exact h
 ·obtain ⟨f,hf⟩:=(show Rd numV (.stmts []) 0 (wordsL s).l (.bad a er) from h).at_;have:=(tells h0 hf).2;omega
 ·decide
end Nm
namespace Fl
open Go Go.ChangeShapes Go.WideShapes Go.ChangeAt Go.RowKit Lx Args Pa Sh Go.Proofs.YtcgibpdjfgjldaaGreatDoor.Nm
section
variable {num : Num} {M : Int} {D R : Nat} {G : Tz -> Prop}
end
end Fl
namespace Nm
open Go Go.ChangeShapes Go.WideShapes Go.ChangeAt Go.RowKit Lx Args Pa Sh
abbrev zA:Value:=.agg #[.int .i64 0,.string ⟨#[]⟩,.int .u32 0,.int .i64 0,.slice none 0 0,.slice none 0 0]
abbrev nA3:Value:=.agg #[.slice none 0 0,.slice none 0 0,.slice none 0 0]
def BadN(s:Bs)(a:Int)(er:Nat):Prop:=(∃ a':Nat,a=(a':Int)/\BadR ProgR (wordsL s) a' er)\/((wordsL s).er = 0/\er = 120/\∃ x t r,ProgR (wordsL s).l (.ok [x] (t :: r))/\ckB (embz x) = .bad a)
def PgmP(s:ByteArray)(w:World)(e:Ending)(w':World):Prop:=
 (∃ (k a:Nat) (sx:Bs) (n:Nat) (A:Option Addr) (la cA:Nat) (B:Option Addr) (lb cB:Nat) (x:Tr) (t:Tk) (r:List Tk) (vs vp vo:Value) (c:St),e = .returned (.tuple #[nzA (k:Int) (a:Int) sx n A la cA B lb cB,.agg #[vs,vp,vo],.int .i64 0,.int .i64 0])/\(wordsL s.data.toList).er = 0/\ProgR (wordsL s.data.toList).l (.ok [x] (t :: r))/\ckB (embz x) = .ok c /\
  TIn (fun b=>w.heap.size<=b) w' x (ndC k a sx n A la cA B lb cB)/\NaP w.heap.size w' vs vp vo c/\Below w.heap.size w w') \/
 (∃ (a:Int) (er:Nat),e = .returned (.tuple #[zA,nA3,.int .i64 a,.int .i64 (er:Int)])/\er≠0/\BadN s.data.toList a er/\Below w.heap.size w w')
theorem q1G{fn:Func}{p q u v:Tmp}(h:fn.results = #[.cell p 26,.cell q 39,.tmp u,.tmp v])(tmps:Array Value)(W:World){g g':Nat}{cs ds:Array Value}(hp:tmps.getD p undef = .pointer (some ⟨g,0,none⟩))(hq:tmps.getD q undef = .pointer (some ⟨g',0,none⟩))(hg:Blk W g 26 cs)(hg':Blk W g' 39 ds)(hs:some 6=some cs.size)(hs':some 3=some ds.size){x y:Value}(hx:tmps.getD u undef=x)(hy:tmps.getD v undef=y) :
  (results fn tmps).run Tryz.prog W = .ok (.tuple #[.agg cs,.agg ds,x,y]) W:=by
 subst hx;subst hy;have hp':tmps[p]?.getD undef = .pointer (some ⟨g,0,none⟩):=VF;have hq':tmps[q]?.getD undef = .pointer (some ⟨g',0,none⟩):=by simpa using hq
 simp [results,h,hp',hq',asAddr,run_loadVar_row W g 26 26 cs (0,0) _ hg Tryz.underlying26 rfl (szNd.trans hs),run_loadVar_row W g' 39 39 ds (0,0) _ hg' Tryz.underlying39 rfl (szNm.trans hs')]
abbrev put3(w:World)(g:Nat)(a b c:Value):World:=((w.setCell ⟨g,0,none⟩ a).setCell ⟨g,1,none⟩ b).setCell ⟨g,2,none⟩ c
theorem q5C{X:Nat->Prop}{w0 w:World}{g:Nat}(h:Upd X w0 w)(hg:g < w0.heap.size->X g)(a b c:Value):Upd X w0 (put3 w g a b c):=
 ((h.setCell (p:=⟨g,0,none⟩) hg a).setCell (p:=⟨g,1,none⟩) hg b).setCell (p:=⟨g,2,none⟩) hg c
theorem put9{w:World}{g g':Nat}(hne:g≠g'){a b c d e f a1 b1 c1:Value}(h:Blk w g 26 #[a,b,c,d,e,f])(h':Blk w g' 39 #[a1,b1,c1])(a2 b2 c2 d2 e2 f2 a3 b3 c3:Value) :
  Blk (put3 (put6 w g a2 b2 c2 d2 e2 f2) g' a3 b3 c3) g 26 #[a2,b2,c2,d2,e2,f2]/\Blk (put3 (put6 w g a2 b2 c2 d2 e2 f2) g' a3 b3 c3) g' 39 #[a3,b3,c3]/\Upd (fun b=>b=g\/b=g') w (put3 (put6 w g a2 b2 c2 d2 e2 f2) g' a3 b3 c3):=by
 have h1:=Blk.put6 h a2 b2 c2 d2 e2 f2;have h2:=q0e h' hne.symm a2 b2 c2 d2 e2 f2;refine ⟨h1.upd (X:=fun b=>b=g') (q5C (X:=fun b=>b=g') (Upd.refl _ _) (fun _=>rfl) _ _ _) hne,Blk.put3 h2 _ _ _,q5C (q02 (Upd.refl _ _) (fun _=>.inl rfl) _ _ _ _ _ _) (fun _=>.inr rfl) _ _ _⟩
theorem pgm(s:ByteArray)(w:World):Calls Tryz.prog 30 #[.string s] w (PgmP s w):=by
 obtain ⟨w0,hw0,hb0,hB,hs0⟩:=q05 w #[.int .i64 0,.string ⟨#[]⟩,.int .u32 0,.int .i64 0,.slice none 0 0,.slice none 0 0];obtain ⟨w1,hw1,hb1,-⟩:=alK w0 #[.slice none 0 0,.slice none 0 0,.slice none 0 0] 39;have hs1:w1.heap.size=w.heap.size+2:=by rw [<-hw1];simp;omega
 have hC:Blk w1 (w.heap.size+1) 39 #[.slice none 0 0,.slice none 0 0,.slice none 0 0]:=by rw [<-hw1,<-hs0];exact Blk.new _ _ _
 have HB01:=Hi (hb0.trans (hb1.mono hb0.size));obtain ⟨g,hg⟩:∃ g,w.heap.size=g:=⟨_,rfl⟩;obtain ⟨g',hg'⟩:∃ g',g+1=g':=⟨_,rfl⟩;rw [hg] at hB hC;rw [hg'] at hC;have hgg:¬ g=g':=V0;have hgg':¬ g'=g:=V0;have HG:=Hi hg;have HG':=Hi hg';have HB:=Hi (hB.below hb1 hB.lt);have HC:=Hi hC;have HW0:=Hi hw0;have HW1:=Hi hw1;have HP:=Hi (q76 s w1);have HS1:=Hi hs1;have HS0:=Hi hs0;clear hw0 hb0 hB hw1 hb1 hC hs1 hs0 hg hg';go_enter Tryz.func30,Tryz.ntmps30;go_upto_region 1 with fail
 rw [HW0.out];rw [HW1.out];simp only [HG.out,HG'.out];go_wp2_with fail
 refine HP.out.mono ?_;rintro e w2 (⟨k,a,sx,n,A,la,cA,B,lb,cB,x,t,r,rfl,h1,h2,h3,hT,hb⟩ | ⟨a,er,rfl,hbad,hb⟩)
 ·obtain ⟨w3,hw3,hb3,hX3,hs3⟩:=q05 w2 (nB (k:Int) (a:Int) sx n A la cA B lb cB);have hb23:=hb.trans (hb3.mono hb.size);have hT3:=TIz.below hb3 (q2W hT);obtain ⟨hz1,hz2,hz3⟩:=q8R h1 h2;have HCK:=Hi (check (embz x) hz1 hz2 w3 (k:Int) (a:Int) sx n A la cA B lb cB hT3);have HT:=Hi (hT.upd (Upd.of_below hb3 fun _=>False) fun _ _ h=>h);have HX3:=Hi hX3;have HW3:=Hi hw3;have HB3:=Hi hb23;have HS3:=Hi hs3;have HER:=Hi h1;have HRD:=Hi h2;have hsz:=Hi hb.size;obtain ⟨⟨e0,e1,e2,e3,e4,e5⟩,z0,z1,z2,z3,z4,z5⟩:=Blk.c6 hX3;obtain ⟨res,hres⟩:∃ res,ckB (embz x)=res:=⟨_,rfl⟩;have HRES:=Hi hres;rw [hres] at HCK;clear hw3 hb3 hX3 hs3 hb hb23 hT hT3 hz1 hz2 hz3 h1 h2 h3 hres HP;go_wp2_with fail
  rw [HW3.out];refine (show Calls Tryz.prog 28 #[nzA (k:Int) (a:Int) sx n A la cA B lb cB] w3 _ from HCK.out).mono ?_;intro e w4 h4;clear e0 e1 e2 e3 e4 e5 z0 z1 z2 z3 z4 z5 HCK;cases res with
  | bad a1=>
   have h4':e = .returned (.tuple #[nA3,.int .i64 a1,.int .i64 120])/\Below w3.heap.size w3 w4:=h4;clear h4;obtain ⟨rfl,hb4⟩:=h4';obtain ⟨w5,hw5,hb5,-⟩:=alK w4 #[.slice none 0 0,.slice none 0 0,.slice none 0 0] 39;have HW5:=Hi hw5;have hb14:=HB3.out.trans ((hb4.trans (hb5.mono hb4.size)).mono HB3.out.size);have hX:=HB.out.below hb14 HB.out.lt;have hY:=HC.out.below hb14 HC.out.lt;obtain ⟨⟨e0,e1,e2,e3,e4,e5⟩,z0,z1,z2,z3,z4,z5⟩:=Blk.c6 hX;obtain ⟨c0,c1,c2,f0,f1,f2⟩:=Blk.c3 hY;have hb14s:=hb14.size;obtain ⟨p1,p2,p3⟩:=put9 hgg hX hY (.int .i64 0) (.string ⟨#[]⟩) (.int .u32 0) (.int .i64 0) (.slice none 0 0) (.slice none 0 0) (.slice none 0 0) (.slice none 0 0) (.slice none 0 0);have HN1:=Hi p1;have HN2:=Hi p2;have HEND:=Hi (show PgmP s w (.returned (.tuple #[zA,nA3,.int .i64 a1,.int .i64 ((120:Nat):Int)])) _ from .inr ⟨a1,120,rfl,V2,.inr ⟨HER.out,rfl,x,t,r,HRD.out,HRES.out⟩,(HB01.out.trans (hb14.mono VP)).trans (p3.below (by have:=hb14.size;have:=HG.out;have:=HG'.out;have:=HS1.out;omega) fun b hb=>V1Q)⟩);clear hX hY hb4 hb14 hb14s p1 p2 p3 hw5 hb5;go_upto_region 5 with fail
   rw [HW5.out];go_wp2_with fail
   exact bodyPost_ret (v:=.tuple #[zA,nA3,.int .i64 a1,.int .i64 120]) (q1G rfl _ _ rfl rfl HN1.out HN2.out rfl rfl rfl rfl) rfl HEND.out
  | ok c=>
   obtain ⟨vs,vp,vo,rfl,⟨os,op,oo,hbd⟩,hb4⟩:=h4;obtain ⟨As,cs,rfl⟩:=q0x os;obtain ⟨Ap,cp,rfl⟩:=q0x op;obtain ⟨Ao,co,rfl⟩:=q0x oo;obtain ⟨w5,hw5,hb5,hY5⟩:=alK w4 #[.slice As c.se.length cs,.slice Ap c.pu.length cp,.slice Ao c.ou.length co] 39;have hb46:=hb5;have hb36:=hb4.trans (hb46.mono hb4.size);have hb16:=HB3.out.trans (hb36.mono HB3.out.size);have hu46:Upd (fun _=>False) w4 w5:=Upd.of_below hb46 _;have hX:=HB.out.below hb16 HB.out.lt;have hY:=HC.out.below hb16 HC.out.lt;have hN6:=HX3.out.below hb36 HX3.out.lt;have hT6:=HT.out.upd (Upd.of_below hb36 fun _=>False) fun _ _ h=>h
   have hsz4:=hb4.size;have hsz3:=HS3.out;have hs12:=HS1.out;have hgo:=HG.out;have hgo':=HG'.out;have hs46:=hb46.size;have hb35:=hb4.trans (hb5.mono hb4.size);have hb15:=HB3.out.trans (hb35.mono HB3.out.size);obtain ⟨⟨e0,e1,e2,e3,e4,e5⟩,z0,z1,z2,z3,z4,z5⟩:=Blk.c6 (HB.out.below hb15 HB.out.lt);obtain ⟨c0,c1,c2,f0,f1,f2⟩:=Blk.c3 (HC.out.below hb15 HC.out.lt);obtain ⟨⟨g0,g1,g2,g3,g4,g5⟩,y0,y1,y2,y3,y4,y5⟩:=Blk.c6 (HX3.out.below hb35 HX3.out.lt);obtain ⟨d0,d1,d2,i0,i1,i2⟩:=Blk.c3 hY5;obtain ⟨p1,p2,p3⟩:=put9 hgg hX hY (.int .i64 (k:Int)) (.string ⟨sx.toArray⟩) (.int .u32 (n:Int)) (.int .i64 (a:Int)) (.slice A la cA) (.slice B lb cB) (.slice As c.se.length cs) (.slice Ap c.pu.length cp) (.slice Ao c.ou.length co);obtain ⟨wp,hwp⟩:∃ wp,put3 (put6 w5 g (.int .i64 (k:Int)) (.string ⟨sx.toArray⟩) (.int .u32 (n:Int)) (.int .i64 (a:Int)) (.slice A la cA) (.slice B lb cB)) g' (.slice As c.se.length cs) (.slice Ap c.pu.length cp) (.slice Ao c.ou.length co)=wp:=⟨_,rfl⟩;rw [hwp] at p1 p2 p3;have hdr:Below wp.heap.size wp wp.drew:=Below.drew (Below.refl _ _);have HN1:=Hi (p1.below hdr p1.lt);have HN2:=Hi (p2.below hdr p2.lt);replace p3:=p3.trans (Upd.of_below hdr _);have hpo:∀ {e:TypeId} {sz m:Nat} {v:Value} {xs:List Value},w4.ownsRow w3.heap.size e sz v m xs->wp.drew.ownsRow w.heap.size e sz v m xs:=fun h=>
    q5i (own_updV (own_updV h hu46 fun _ _ h=>h) p3 fun b hb hq=>by have:=hsz.out;have:=(own_atV h b hb).1;omega) V0w
   have HEND:=Hi (show PgmP s w (.returned (.tuple #[nzA (k:Int) (a:Int) sx n A la cA B lb cB,.agg #[.slice As c.se.length cs,.slice Ap c.pu.length cp,.slice Ao c.ou.length co],.int .i64 0,.int .i64 0])) wp.drew from
    .inl ⟨k,a,sx,n,A,la,cA,B,lb,cB,x,t,r,_,_,_,c,rfl,HER.out,HRD.out,HRES.out,(hT6.upd p3 fun b hb h=>V0w).mono fun b hb _=>V0w,⟨hpo os,hpo op,hpo oo,hbd⟩,(HB01.out.trans (hb16.mono VP)).trans (p3.below (by have:=hb16.size;have:=HS1.out;omega) fun b hb=>V1Q)⟩)
   have HW5:=Hi hw5;have hwp':=hwp;unfold put3 put6 at hwp';have HWP:=Hi hwp';have q1:¬ g=w4.heap.size:=V0w;have q2:¬ w4.heap.size=g:=V0w;clear hb35 hb15 hX hY hN6 hT6 hb4 hb5 hb46 hb36 hb16 hu46 hpo hgo hgo' hs12 hsz3 hsz4 hs46 p1 p2 p3 os op oo hbd hw5 hwp hwp' hY5 hdr;go_upto_region 7 with fail
   rw [HW5.out]
   go_region
   all_goals (
    rw [HWP.out];go_wp2_with fail
    exact bodyPost_ret (v:=.tuple #[nzA (k:Int) (a:Int) sx n A la cA B lb cB,.agg #[.slice As c.se.length cs,.slice Ap c.pu.length cp,.slice Ao c.ou.length co],.int .i64 0,.int .i64 0]) (q1G rfl _ _ rfl rfl HN1.out HN2.out rfl rfl rfl rfl) rfl HEND.out)
 ·have hX:=HB.out.below hb HB.out.lt;have hY:=HC.out.below hb HC.out.lt;have hs12:=HS1.out;have hgo:=HG.out;have hgo':=HG'.out;have hbs:=hb.size;have her:=prog_er hbad;obtain ⟨w3,hw3,hb3,hX3,hs3⟩:=q05 w2 #[.int .i64 0,.string ⟨#[]⟩,.int .u32 0,.int .i64 0,.slice none 0 0,.slice none 0 0];have hX':=hX.below hb3 hX.lt;have hY':=hY.below hb3 hY.lt;have hb13:=hb.trans (hb3.mono hb.size);have hbs3:=hb13.size;obtain ⟨⟨e0,e1,e2,e3,e4,e5⟩,z0,z1,z2,z3,z4,z5⟩:=Blk.c6 hX';obtain ⟨c0,c1,c2,f0,f1,f2⟩:=Blk.c3 hY';obtain ⟨p1,p2,p3⟩:=put9 hgg hX' hY' (.int .i64 0) (.string ⟨#[]⟩) (.int .u32 0) (.int .i64 0) (.slice none 0 0) (.slice none 0 0) (.slice none 0 0) (.slice none 0 0) (.slice none 0 0);have HN1:=Hi p1;have HN2:=Hi p2;have hz:((er:Int) != 0)=true:=V4;have HEND:=Hi (show PgmP s w (.returned (.tuple #[zA,nA3,.int .i64 (a:Int),.int .i64 (er:Int)])) _ from .inr ⟨(a:Int),er,rfl,her,.inl ⟨a,rfl,hbad⟩,(HB01.out.trans (hb13.mono VP)).trans (p3.below VP fun b hb=>V1Q)⟩);have HW3:=Hi hw3;clear hX hY hX' hY' hb hb13 hb3 hX3 hw3 p1 p2 p3 hbad hgo hgo' hs12 hbs hbs3;go_upto_region 2 with fail
  rw [HW3.out];go_wp2_with fail
  exact bodyPost_ret (v:=.tuple #[zA,nA3,.int .i64 (a:Int),.int .i64 (er:Int)]) (q1G rfl _ _ rfl rfl HN1.out HN2.out rfl rfl rfl rfl) rfl HEND.out
end Nm
namespace Fl
open Go Go.ChangeShapes Go.WideShapes Go.ChangeAt Go.RowKit Lx Args Pa Sh Go.Proofs.YtcgibpdjfgjldaaGreatDoor.Nm
def okG(z:Tz):Prop:=lenz z/\nz z/\nbz z<=134217728
/-! What the grammar reads is within bounds. -/
mutual
theorem q8i{Q:Bs->Prop}:∀ (x:Tr),gE Q x->nz (embz x)
 | .mk k a s n ps l,h=>by
  unfold gE at h;unfold embz nz;exact ⟨h.2.2.1,q8S l h.2.1⟩
theorem q8S{Q:Bs->Prop}:∀ (l:List Tr),gEs Q l->nzs (embs l)
 | [],_=>V26
 | x :: l,h=>by
  unfold gEs at h;unfold embs nzs;exact ⟨q8i x h.1,q8S l h.2⟩
end
mutual
theorem nz_gS{Q:Bs->Prop}:∀ (x:Tr),gS Q x->nz (embz x)
 | .mk k a s n ps l,h=>by
  unfold gS at h;unfold embz nz;refine ⟨by rw [h.1];decide,?_⟩;rcases h.2.2.2 with ⟨_,_,h⟩ | ⟨_,_,h⟩
  ·exact q8j _ l h
  ·exact q8j _ l h
theorem q8j{Q:Bs->Prop}:∀ (i:Nat) (l:List Tr),gA Q i l->nzs (embs l)
 | _,[],_=>V26
 | 0,x :: l,h=>by
  unfold gA at h;unfold embs nzs;exact ⟨nz_gS x h.1,q8j 0 l h.2⟩
 | i+1,x :: l,h=>by
  unfold gA at h;unfold embs nzs;exact ⟨q8i x h.1,q8j i l h.2⟩
end
theorem nz_gT{Q:Bs->Prop}{x:Tr}(h:gT Q x):nz (embz x):=by
 obtain ⟨k,a,s,n,ps,l⟩:=x;unfold gT at h;rcases h with h | ⟨hn,h⟩
 ·exact nz_gS _ h
 ·unfold embz nz;refine ⟨by rw [hn];decide,?_⟩;rcases h with ⟨_,_,rfl,_⟩ | ⟨_,_,_,x,rfl,hx⟩ | ⟨_,_,_,_,x,rfl,hx⟩
  ·unfold embs nzs;trivial
  ·unfold embs embs nzs nzs;exact ⟨q8i x hx,trivial⟩
  ·unfold embs embs nzs nzs;exact ⟨q8i x hx,trivial⟩
theorem q8T{Q:Bs->Prop}:∀ {l:List Tr},(∀ y∈l,gT Q y)->nzs (embs l)
 | [],_=>V26
 | x :: l,h=>by
  unfold embs nzs;exact ⟨nz_gT (h x V3),q8T fun y hy=>h y (by simp [hy])⟩
theorem q5D{s:Bs}{x:Tr}{t:Tk}{r:List Tk}(he:(wordsL s).er = 0)(h:ProgR (wordsL s).l (.ok [x] (t :: r))):okG (embz x):=by
 obtain ⟨h1,_,_⟩:=q8R he h;obtain ⟨zs,e1,h2,_⟩:=h;simp only [List.cons.injEq,and_true] at e1;subst e1;obtain ⟨f,hf⟩:=h2.at_;have hm:=q4X (num:=numV) f (.stmts []) 0 (wordsL s).l;rw [hf] at hm;have hw:=q3E he;have hm1:=hm.1;have hwz:wts zs<=80004000:=by
  have:baseN (.stmts []) = 0:=rfl;omega
 have hg:=q4D (num:=numV) (Q:=fun _=>True) q4W f (.stmts []) 0 (wordsL s).l trivial (fun _ _ _=>trivial);rw [hf] at hg;obtain ⟨ys,e,hy⟩:=hg.1;have hys:zs=ys:=V0A;subst hys;refine ⟨h1,?_,?_⟩
 ·unfold embz nz;exact ⟨V2,q8T hy⟩
 ·exact V3h
def FpB(s:Bs)(a:Int)(er:Nat):Prop:=BadN s a er\/((wordsL s).er = 0/\∃ x t r c,ProgR (wordsL s).l (.ok [x] (t :: r))/\ckB (embz x) = .ok c/\flB worB XM 61 2000 (embz x) = .bad a er)
end Fl
end Go.Proofs.YtcgibpdjfgjldaaGreatDoor
