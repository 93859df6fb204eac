/- DERIVED. RqDp, RqPx. By an AI agent. -/
import Derived.Test.YtcgibpdjfgjldaaGreatDoorU29
import Derived.Test.YtcgibpdjfgjldaaGreatDoorU30
set_option maxRecDepth 100000
set_option maxHeartbeats 4000000
set_option linter.unusedVariables false
set_option linter.unusedSimpArgs false
open Go Go.ChangeShapes Go.WideShapes Go.ChangeAt Go.RowKit
namespace Go.Proofs.YtcgibpdjfgjldaaGreatDoor
namespace Pq
open Lx Args Pa
section
attribute [local go_sem] fTk0 fTk1 fTk2
theorem q91{w:World}{bp ba wy:Nat}{l:List Tk}(h:QS w bp l ba wy):∃ v0 v1,Blk w bp 60 #[v0,v1,.int .i64 (ba:Int),.int .i64 (wy:Int)]:=by
 obtain ⟨b,o,c,pre,_,h1,_⟩:=h;exact ⟨_,_,h1⟩
abbrev zV(a er:Nat):Value:=.tuple #[.agg zNd,.int .i64 (a:Int),.int .i64 (er:Int)]
theorem q7i(w:World)(bp ba wy:Nat)(t:Tk)(r:List Tk)(hp:QS w bp (t :: r) ba wy)(hw:wy≠0)(k a n la cA lb cB:Nat)(s:Bs)(A B:Option Addr) :
  Calls Tryz.prog 27 #[.pointer (some ⟨bp,0,none⟩),.agg #[.int .i64 (k:Int),.string ⟨s.toArray⟩,.int .u32 (n:Int),.int .i64 (a:Int),.slice A la cA,.slice B lb cB]] w fun e w'=>
   e = .returned (zV ba wy)/\Below w.heap.size w w':=by
 obtain ⟨w0,hw0,hb0,hX,hY⟩:=q52 w #[.int .i64 (k:Int),.string ⟨s.toArray⟩,.int .u32 (n:Int),.int .i64 (a:Int),.slice A la cA,.slice B lb cB];have HTK:=Hi (tok w0 bp ba wy t r (hp.below hb0));have hlt:=hp.lt;have HP0:=Hi (hp.below hb0);have HB0:=Hi hb0;have HY:=Hi hY;have HW:=Hi hw0;have hq:((wy:Int) != 0)=true:=V4;have hq2:((wy:Int)==0)=false:=V4;have HWY:=Hi hw;clear hp hb0 hX hY hw0 hw;go_enter Tryz.func27,Tryz.ntmps27;go_wp2_with fail
 rw [HW.out];refine HTK.out.mono ?_;rintro e w1 ⟨rfl,hb1⟩;have HP1:=Hi (HP0.out.below hb1);have HBD:=Hi fun b=>q0r w1 bp ba wy 100 b t r HP1.out (.inr HWY.out)
 have HB1:=Hi (HB0.out.trans (hb1.mono HB0.out.size));have HY1:=Hi (HY.out.below hb1 HY.out.lt);have HPZ:=HP1;obtain ⟨b',o,c,n',hn,hl,hc,hm,⟨c0,c1,c2,c3⟩,⟨u0,u1,u2,u3⟩,f4,f5,f6⟩:=HP1.out.head;have hbl:=HP1.out.lt;clear hb1 hn hl hc hm f4 f5 f6;go_wp2_with fail
 refine (HBD.out _).mono ?_;rintro e w' ⟨rfl,rfl⟩;obtain ⟨⟨g0,g1,g2,g3,g4,g5⟩,y0,y1,y2,y3,y4,y5⟩:=Blk.c6 HY1.out;have hyl:=HY1.out.lt;go_wp2_with fail
 have hdr:Below w1.heap.size w1 w1.drew:=q0f (Below.refl _ _) 1;have HY2:=Hi (HY1.out.below hdr hyl);have HB2:=Hi (HB1.out.trans (hdr.mono HB1.out.size));clear hdr;have hne:bp≠w.heap.size+1:=V0;obtain ⟨v0,v1,hZB⟩:=q91 HPZ.out;have hZ0:Blk w1.drew bp 60 #[v0,v1,.int .i64 (ba:Int),.int .i64 (wy:Int)]:=hZB;have HZB:=Hi hZB;clear hZB;refine HT.wp_region (Z:=fun w'=>Blk w' bp 60 #[v0,v1,.int .i64 (ba:Int),.int .i64 (wy:Int)]) (S:=fun _=>True) (st:=[]) V1 ?_;refine HT.takeP (i:=0) (v:=?_) rfl V1 V1 V1 V1 (fun _ _ _ h=>h) (Or.inl ⟨V6,?_⟩) hZ0 (fun _=>trivial) ?_;rotate_left
 ·exact Vb
 (try simp only [HT.pS]);refine HT.takeP (i:=1) (v:=?_) rfl V1 V1 V1 V1 (fun _ _ _ h=>h) (Or.inl ⟨V6,?_⟩) hZ0 (fun _=>trivial) ?_;rotate_left
 ·exact Vb
 (try simp only [HT.pS]);refine HT.takeP (i:=2) (v:=?_) rfl V1 V1 V1 V1 (fun _ _ _ h=>h) (Or.inl ⟨V6,?_⟩) hZ0 (fun _=>trivial) ?_;rotate_left
 ·exact Vb
 (try simp only [HT.pS]);refine HT.takeP (i:=3) (v:=?_) rfl V1 V1 V1 V1 (fun _ _ _ h=>h) (Or.inl ⟨V6,?_⟩) hZ0 (fun _=>trivial) ?_;rotate_left
 ·exact Vb
 (try simp only [HT.pS]);refine HT.takeP (i:=4) (v:=?_) rfl V1 V1 V1 V1 (fun _ _ _ h=>h) (Or.inl ⟨V6,?_⟩) hZ0 (fun _=>trivial) ?_;rotate_left
 ·exact Vb
 (try simp only [HT.pS]);refine HT.takeP (i:=5) (v:=?_) rfl V1 V1 V1 V1 (fun _ _ _ h=>h) (Or.inl ⟨V6,?_⟩) hZ0 (fun _=>trivial) ?_;rotate_left
 ·exact Vb
 (try simp only [HT.pS]);refine HT.takeP (i:=6) (v:=?_) rfl V1 V1 V1 V1 (fun _ _ _ h=>h) (Or.inl ⟨V6,?_⟩) hZ0 (fun _=>trivial) ?_;rotate_left
 ·exact Vb
 (try simp only [HT.pS]);refine HT.takeP (i:=7) (v:=?_) rfl V1 V1 V1 V1 (fun _ _ _ h=>h) (Or.inl ⟨V6,?_⟩) hZ0 (fun _=>trivial) ?_;rotate_left
 ·exact Vb
 (try simp only [HT.pS]);refine HT.takeP (i:=8) (v:=?_) rfl V1 V1 V1 V1 (fun _ _ _ h=>h) (Or.inl ⟨V6,?_⟩) hZ0 (fun _=>trivial) ?_;rotate_left
 ·exact Vb
 (try simp only [HT.pS]);refine HT.one (i:=9) V1 rfl (fun K hK=>?_);go_simp;refine hK.out _ _ VS trivial ?_;clear hK K;(try simp only [HT.pS]);refine HT.one (i:=10) V1 rfl (fun K hK=>?_);go_simp;refine hK.out _ _ VS trivial ?_;clear hK K;(try simp only [HT.pS]);refine HT.one (i:=11) V1 rfl (fun K hK=>?_);go_simp;refine hK.out _ _ VS trivial ?_;clear hK K;(try simp only [HT.pS]);refine HT.done V1 ?_;dsimp only [Exit.then];go_wp2_with fail
 exact bodyPost_ret (v:=zV ba wy) (q1l rfl _ _ rfl (Blk.drew (Blk.put6 HY1.out _ _ _ _ _ _)) rfl rfl rfl) rfl ⟨rfl,((((((HB1.out.setCell (Nat.le_succ _) _).setCell (Nat.le_succ _) _).setCell (Nat.le_succ _) _).setCell (Nat.le_succ _) _).setCell (Nat.le_succ _) _).setCell (Nat.le_succ _) _).drew⟩
theorem q7j(w:World)(bp:Nat)(t:Tk)(r:List Tk)(hp:QS w bp (t :: r) 0 0)(hk:t.k≠0)(k a n la cA lb cB:Nat)(s:Bs)(A B:Option Addr) :
  Calls Tryz.prog 27 #[.pointer (some ⟨bp,0,none⟩),.agg #[.int .i64 (k:Int),.string ⟨s.toArray⟩,.int .u32 (n:Int),.int .i64 (a:Int),.slice A la cA,.slice B lb cB]] w fun e w'=>
   e = .returned (zV t.at_ 100)/\UB bp w w':=by
 obtain ⟨w0,hw0,hb0,hX,hY⟩:=q52 w #[.int .i64 (k:Int),.string ⟨s.toArray⟩,.int .u32 (n:Int),.int .i64 (a:Int),.slice A la cA,.slice B lb cB];have hlt:=hp.lt;have HTK:=Hi (tok w0 bp 0 0 t r (hp.below hb0));have HP0:=Hi (hp.below hb0);have HB0:=Hi hb0;have HY:=Hi hY;have HW:=Hi hw0;have hq:((t.k:Int) != 0)=true:=V4;clear hp hb0 hX hY hw0;go_enter Tryz.func27,Tryz.ntmps27;go_wp2_with fail
 rw [HW.out];refine HTK.out.mono ?_;rintro e w1 ⟨rfl,hb1⟩;have HBD:=Hi (q1z w1 bp 100 t r (HP0.out.below hb1));have HU1:=Hi ((q00 (bp:=bp) HB0.out).trans (q00 hb1));have HY1:=Hi (HY.out.below hb1 HY.out.lt);clear hb1;go_wp2_with fail
 refine HBD.out.mono ?_;rintro e w3 ⟨rfl,hp3,hu3⟩;have HPZ:=Hi hp3;obtain ⟨b',o,c,n',hn,hl,hc,hm,⟨c0,c1,c2,c3⟩,⟨u0,u1,u2,u3⟩,f4,f5,f6⟩:=hp3.head;have hbl:=hp3.lt;have HU3:=Hi (HU1.out.trans hu3);have HY3:=Hi (HY1.out.upd hu3 (show ¬ w.heap.size+1=bp from V0));clear hp3 hu3 hn hl hc hm f4 f5 f6;obtain ⟨⟨g0,g1,g2,g3,g4,g5⟩,y0,y1,y2,y3,y4,y5⟩:=Blk.c6 HY3.out;have hyl:=HY3.out.lt;go_wp2_with fail
 have hdr:Below w3.heap.size w3 w3.drew:=q0f (Below.refl _ _) 1;have HY2:=Hi (HY3.out.below hdr hyl);have HU2:=Hi (HU3.out.trans (q00 hdr));clear hdr;have hne:bp≠w.heap.size+1:=V0;obtain ⟨v0,v1,hZB⟩:=q91 HPZ.out;have hZ0:Blk w3.drew bp 60 #[v0,v1,.int .i64 (t.at_:Int),.int .i64 (100:Int)]:=hZB;have HZB:=Hi (show Blk w3 bp 60 #[v0,v1,.int .i64 (t.at_:Int),.int .i64 (100:Int)] from hZB);clear hZB;refine HT.wp_region (Z:=fun w'=>Blk w' bp 60 #[v0,v1,.int .i64 (t.at_:Int),.int .i64 (100:Int)]) (S:=fun _=>True) (st:=[]) V1 ?_;refine HT.takeP (i:=0) (v:=?_) rfl V1 V1 V1 V1 (fun _ _ _ h=>h) (Or.inl ⟨V6,?_⟩) hZ0 (fun _=>trivial) ?_;rotate_left
 ·exact Vb
 (try simp only [HT.pS]);refine HT.takeP (i:=1) (v:=?_) rfl V1 V1 V1 V1 (fun _ _ _ h=>h) (Or.inl ⟨V6,?_⟩) hZ0 (fun _=>trivial) ?_;rotate_left
 ·exact Vb
 (try simp only [HT.pS]);refine HT.takeP (i:=2) (v:=?_) rfl V1 V1 V1 V1 (fun _ _ _ h=>h) (Or.inl ⟨V6,?_⟩) hZ0 (fun _=>trivial) ?_;rotate_left
 ·exact Vb
 (try simp only [HT.pS]);refine HT.takeP (i:=3) (v:=?_) rfl V1 V1 V1 V1 (fun _ _ _ h=>h) (Or.inl ⟨V6,?_⟩) hZ0 (fun _=>trivial) ?_;rotate_left
 ·exact Vb
 (try simp only [HT.pS]);refine HT.takeP (i:=4) (v:=?_) rfl V1 V1 V1 V1 (fun _ _ _ h=>h) (Or.inl ⟨V6,?_⟩) hZ0 (fun _=>trivial) ?_;rotate_left
 ·exact Vb
 (try simp only [HT.pS]);refine HT.takeP (i:=5) (v:=?_) rfl V1 V1 V1 V1 (fun _ _ _ h=>h) (Or.inl ⟨V6,?_⟩) hZ0 (fun _=>trivial) ?_;rotate_left
 ·exact Vb
 (try simp only [HT.pS]);refine HT.takeP (i:=6) (v:=?_) rfl V1 V1 V1 V1 (fun _ _ _ h=>h) (Or.inl ⟨V6,?_⟩) hZ0 (fun _=>trivial) ?_;rotate_left
 ·exact Vb
 (try simp only [HT.pS]);refine HT.takeP (i:=7) (v:=?_) rfl V1 V1 V1 V1 (fun _ _ _ h=>h) (Or.inl ⟨V6,?_⟩) hZ0 (fun _=>trivial) ?_;rotate_left
 ·exact Vb
 (try simp only [HT.pS]);refine HT.takeP (i:=8) (v:=?_) rfl V1 V1 V1 V1 (fun _ _ _ h=>h) (Or.inl ⟨V6,?_⟩) hZ0 (fun _=>trivial) ?_;rotate_left
 ·exact Vb
 (try simp only [HT.pS]);refine HT.one (i:=9) V1 rfl (fun K hK=>?_);go_simp;refine hK.out _ _ VS trivial ?_;clear hK K;(try simp only [HT.pS]);refine HT.one (i:=10) V1 rfl (fun K hK=>?_);go_simp;refine hK.out _ _ VS trivial ?_;clear hK K;(try simp only [HT.pS]);refine HT.one (i:=11) V1 rfl (fun K hK=>?_);go_simp;refine hK.out _ _ VS trivial ?_;clear hK K;(try simp only [HT.pS]);refine HT.done V1 ?_;dsimp only [Exit.then];go_wp2_with fail
 exact bodyPost_ret (v:=zV t.at_ 100) (q1l rfl _ _ rfl (Blk.drew (Blk.put6 HY3.out _ _ _ _ _ _)) rfl rfl rfl) rfl ⟨rfl,(q02 HU3.out (fun h=>absurd h V0) _ _ _ _ _ _).drew⟩
theorem q53{R:List Tk->Out->Prop}{s:ByteArray}{w w':World}{a er:Nat}(h:BadR R (wordsL s.data.toList) a er)(hb:Below w.heap.size w w'):RdP R s w (.returned (zV a er)) w':=.inr ⟨a,er,rfl,h,hb⟩
theorem qs_new{w:World}{A:Option Addr}{c:Nat}{l:List Tk}(hg:Gt l)(hL:Lies w A (l.flatMap tkC)):QS (w.alloc (.cells #[.slice A l.length c,.int .i64 0,.int .i64 0,.int .i64 0] 60)) w.heap.size l 0 0:=by
 obtain ⟨t,r,rfl⟩:=hg.cons;obtain ⟨b,o,rfl,hb,_⟩:=hL.at_ (j:=0) (u:=.int .i64 (t.k:Int)) rfl;exact ⟨b,o,c,[],hb,by simpa using Blk.new w 60 #[.slice (some ⟨b,o,none⟩) (t :: r).length c,.int .i64 0,.int .i64 0,.int .i64 0],hL.below ((Below.refl _ _).alloc (Nat.le_refl _) _),by simpa using hg.few⟩
end
section
attribute [local go_sem] fTk0 fTk1 fTk2
theorem r_expr(s:ByteArray)(w:World):Calls Tryz.prog 21 #[.string s] w (RdP ExprR s w):=by
 obtain ⟨w0,hw0,hb0,hB⟩:=q06 w;have HWD:=Hi (words s w0);have HB0:=Hi hb0;have HB:=Hi hB;have HW:=Hi hw0;have hlb:=hB.lt;clear hb0 hw0 hB;go_enter Tryz.func21,Tryz.ntmps21;go_wp2_with fail
 rw [HW.out];refine HWD.out.mono ?_;rintro e w1 ⟨A,c,rfl,hL,hb1⟩;by_cases her:(wordsL s.data.toList).er = 0;rotate_left
 ·have hq:(((wordsL s.data.toList).er:Int) != 0)=true:=by simp;omega
  have hbad:BadR ExprR (wordsL s.data.toList) (wordsL s.data.toList).at_ (wordsL s.data.toList).er:=.inl ⟨her,rfl,rfl⟩;generalize (wordsL s.data.toList).l.length=n at *;have hX:=HB.out.below hb1 HB.out.lt;obtain ⟨⟨e0,e1,e2,e3,e4,e5⟩,z0,z1,z2,z3,z4,z5⟩:=Blk.c6 hX;have hxl:=hX.lt;have HEND:=Hi (q53 hbad (((((((HB0.out.trans (hb1.mono HB0.out.size)).setCell (p:=⟨w.heap.size,0,none⟩) (Nat.le_refl _) (.int .i64 0)).setCell (p:=⟨w.heap.size,1,none⟩) (Nat.le_refl _) (.string ⟨#[]⟩)).setCell (p:=⟨w.heap.size,2,none⟩) (Nat.le_refl _) (.int .u32 0)).setCell (p:=⟨w.heap.size,3,none⟩) (Nat.le_refl _) (.int .i64 0)).setCell (p:=⟨w.heap.size,4,none⟩) (Nat.le_refl _) (.slice none 0 0)).setCell (p:=⟨w.heap.size,5,none⟩) (Nat.le_refl _) (.slice none 0 0)));generalize (wordsL s.data.toList).er=er at *;generalize (wordsL s.data.toList).at_=at_ at *;have HX:=Hi hX;clear hL hb1 hbad her hX;go_wp2_with fail
  exact bodyPost_ret (v:=zV at_ er) (q1l rfl _ _ rfl (Blk.put6 HX.out _ _ _ _ _ _) rfl rfl rfl) rfl HEND.out
 rw [her];have hg:=q2A her;obtain ⟨l,hl⟩:∃ l,(wordsL s.data.toList).l=l:=⟨_,rfl⟩;have hrdp:∀ a er,ExprR l (.bad a er)->BadR ExprR (wordsL s.data.toList) a er:=fun a er h=>.inr ⟨her,.inl (by rw [hl];exact h)⟩
 have hrdm:∀ xs t r,ExprR l (.ok xs (t :: r))->t.k≠0->BadR ExprR (wordsL s.data.toList) t.at_ 100:=fun xs t r h hk=>.inr ⟨her,.inr ⟨xs,t,r,by rw [hl];exact h,hk,rfl,rfl⟩⟩
 rw [hl] at hg hL ⊢;generalize (wordsL s.data.toList).at_=at_;obtain ⟨w2,hw2,hb2,-⟩:=alK w1 #[.slice A l.length c,.int .i64 0,.int .i64 0,.int .i64 0] 60;have hq2:QS w2 w1.heap.size l 0 0:=by rw [<-hw2];exact qs_new hg hL
 have h01:=hb1.size;have h12:=hb2.size;have HX2:=Hi ((HB.out.below hb1 HB.out.lt).below hb2 V0);have HB2:=Hi ((HB0.out.trans (hb1.mono HB0.out.size)).trans (hb2.mono (HB0.out.trans (hb1.mono HB0.out.size)).size));have HE:=Hi (ex w2 w1.heap.size 0 l hq2 hg);have HW2:=Hi hw2;have HRB:=Hi hrdp;have HRM:=Hi hrdm;have HL:=Hi hl;have HER:=Hi her;clear hb1 hb2 hq2 hw2 hL hrdp hrdm hl her hg;go_wp2_with fail
 rw [HW2.out];refine (show Calls Tryz.prog 46 #[.pointer (some ⟨w1.heap.size,0,none⟩),.int .i64 0] w2 _ from HE.out).mono ?_;rintro e w3 ⟨k,a,sx,n,A',la,cA,B,lb,cB,rfl,hU,hO⟩;have h23:=hU.size;have HX3:=Hi (HX2.out.upd hU (show ¬ w.heap.size=w1.heap.size from V0));have HU:=Hi hU;have HB3:=Hi (HB2.out.trans ((hU.below (B:=w.heap.size) V0 fun k hk=>V0)));rcases hO with ⟨x,r,hT,hR,hP,hG,hr⟩ | ⟨ba,er,t,r,he,hR,hP⟩
 ·obtain ⟨t,r,rfl⟩:=hG.cons;have HT3:=Hi (show TIn (fun b=>w.heap.size+1<=b) w3 x (ndC k a sx n A' la cA B lb cB) from tup hT V0);by_cases hk:t.k = 0
  ·have HD:=Hi (done_ok w3 w1.heap.size t r hP hk k a n la cA lb cB sx A' B);have HRE:=Hi (show ExprR l (.ok [x] (t :: r)) from hR);have HK:=Hi hk;clear hU hT hR hP hG hr hk;go_wp2_with fail
   refine HD.out.mono ?_;rintro e w4 ⟨rfl,hb4⟩;have hX:=HX3.out.below hb4 HX3.out.lt;have hxl:=hX.lt;obtain ⟨⟨e0,e1,e2,e3,e4,e5⟩,z0,z1,z2,z3,z4,z5⟩:=Blk.c6 hX;have hu:Upd (fun b=>b=w.heap.size) w4 _:=q02 (X:=fun b=>b=w.heap.size) (Upd.refl _ w4) (fun _=>rfl) (.int .i64 (k:Int)) (.string ⟨sx.toArray⟩) (.int .u32 (n:Int)) (.int .i64 (a:Int)) (.slice A' la cA) (.slice B lb cB);have HEND:=Hi (show RdP ExprR s w (.returned (.tuple #[.agg #[.int .i64 (k:Int),.string ⟨sx.toArray⟩,.int .u32 (n:Int),.int .i64 (a:Int),.slice A' la cA,.slice B lb cB],.int .i64 0,.int .i64 0])) _ from
    .inl ⟨k,a,sx,n,A',la,cA,B,lb,cB,x,t,r,rfl,HER.out,by rw [HL.out];exact HRE.out,HK.out,tup (tfar (HT3.out.upd (Upd.of_below hb4 fun _=>False) fun _ _ h=>h) hu fun b hb=>V0) (Nat.le_succ _),((Upd.of_below (HB3.out.trans (hb4.mono HB3.out.size)) (fun b=>b=w.heap.size)).trans hu).below (Nat.le_refl _) fun k hk=>V0⟩)
   have HN:=Hi (Blk.put6 hX (.int .i64 (k:Int)) (.string ⟨sx.toArray⟩) (.int .u32 (n:Int)) (.int .i64 (a:Int)) (.slice A' la cA) (.slice B lb cB));clear hX hu hb4;go_wp2_with fail
   exact bodyPost_ret (v:=.tuple #[.agg #[.int .i64 (k:Int),.string ⟨sx.toArray⟩,.int .u32 (n:Int),.int .i64 (a:Int),.slice A' la cA,.slice B lb cB],.int .i64 0,.int .i64 0]) (q1l rfl _ _ rfl HN.out rfl rfl rfl) rfl HEND.out
  ·have HD:=Hi (q7j w3 w1.heap.size t r hP hk k a n la cA lb cB sx A' B);have HBD:=Hi (HRM.out [x] t r hR hk);clear hU hT hR hP hG hr hk;go_wp2_with fail
   refine HD.out.mono ?_;rintro e w4 ⟨rfl,hu4⟩;have hX:=HX3.out.upd hu4 (show ¬ w.heap.size=w1.heap.size from V0);have hxl:=hX.lt;have h34:=hu4.size;obtain ⟨⟨e0,e1,e2,e3,e4,e5⟩,z0,z1,z2,z3,z4,z5⟩:=Blk.c6 hX;have hu:Upd (fun b=>b=w.heap.size\/b=w1.heap.size) w4 _:=q02 (X:=fun b=>b=w.heap.size\/b=w1.heap.size) (Upd.refl _ w4) (fun _=>.inl rfl) (.int .i64 0) (.string ⟨#[]⟩) (.int .u32 0) (.int .i64 0) (.slice none 0 0) (.slice none 0 0);have HEND:=Hi (q53 (w:=w) (w':=put6 w4 w.heap.size (.int .i64 0) (.string ⟨#[]⟩) (.int .u32 0) (.int .i64 0) (.slice none 0 0) (.slice none 0 0)) HBD.out (HB3.out.trans (((hu4.mono (fun b hb=>Or.inr hb)).trans hu).below V0 fun k hk=>V0)));have HN:=Hi (Blk.put6 hX (.int .i64 0) (.string ⟨#[]⟩) (.int .u32 0) (.int .i64 0) (.slice none 0 0) (.slice none 0 0));clear hX hu hu4;go_wp2_with fail
   exact bodyPost_ret (v:=zV t.at_ 100) (q1l rfl _ _ rfl HN.out rfl rfl rfl) rfl HEND.out
 ·have HD:=Hi (q7i w3 w1.heap.size ba er t r hP he k a n la cA lb cB sx A' B);have HBD:=Hi (HRB.out ba er hR);clear hU hR hP he;go_wp2_with fail
  refine HD.out.mono ?_;rintro e w4 ⟨rfl,hb4⟩;have hX:=HX3.out.below hb4 HX3.out.lt;have hxl:=hX.lt;obtain ⟨⟨e0,e1,e2,e3,e4,e5⟩,z0,z1,z2,z3,z4,z5⟩:=Blk.c6 hX;have hu:Upd (fun b=>b=w.heap.size) w4 _:=q02 (X:=fun b=>b=w.heap.size) (Upd.refl _ w4) (fun _=>rfl) (.int .i64 0) (.string ⟨#[]⟩) (.int .u32 0) (.int .i64 0) (.slice none 0 0) (.slice none 0 0);have HEND:=Hi (q53 (w:=w) (w':=put6 w4 w.heap.size (.int .i64 0) (.string ⟨#[]⟩) (.int .u32 0) (.int .i64 0) (.slice none 0 0) (.slice none 0 0)) HBD.out (((Upd.of_below (HB3.out.trans (hb4.mono HB3.out.size)) (fun b=>b=w.heap.size)).trans hu).below (Nat.le_refl _) fun k hk=>V0));have HN:=Hi (Blk.put6 hX (.int .i64 0) (.string ⟨#[]⟩) (.int .u32 0) (.int .i64 0) (.slice none 0 0) (.slice none 0 0));clear hX hu hb4;go_wp2_with fail
  exact bodyPost_ret (v:=zV ba er) (q1l rfl _ _ rfl HN.out rfl rfl rfl) rfl HEND.out
end
end Pq
end Go.Proofs.YtcgibpdjfgjldaaGreatDoor
