/- DERIVED. PaTp, RqDo. By an AI agent. -/
import Derived.Test.YtcgibpdjfgjldaaGreatDoorT38
set_option maxRecDepth 100000
set_option maxHeartbeats 4000000
set_option linter.unusedVariables false
set_option linter.unusedSimpArgs false
open Go Go.ChangeShapes Go.WideShapes Go.ChangeAt Go.RowKit
namespace Go.Proofs.YtcgibpdjfgjldaaGreatDoor
namespace Pa
open Lx Args
section
attribute [local go_sem] fTk0 fTk1 fTk2
theorem q1j{fn:Func}{p u v:Tmp}(h:fn.results = #[.cell p 26,.tmp u,.tmp v])(tmps:Array Value)(W:World){g:Nat}{t:TypeId}{cs:Array Value}(hp:tmps.getD p undef = .pointer (some ⟨g,0,none⟩))(hg:Blk W g t cs)(hs:some 6=some cs.size){x y:Value}(hx:tmps.getD u undef=x)(hy:tmps.getD v undef=y) :
  (results fn tmps).run Tryz.prog W = .ok (.tuple #[.agg cs,x,y]) W:=by
 subst hx;subst hy;have hp':tmps[p]?.getD undef = .pointer (some ⟨g,0,none⟩):=VF;simp [results,h,hp',asAddr,run_loadVar_row W g t 26 cs (0,0) _ hg Tryz.underlying26 rfl (szNd.trans hs)]
theorem q76(s:ByteArray)(w:World):Calls Tryz.prog 63 #[.string s] w (RdP ProgR s w):=by
 have hrd:∀ w,Calls Tryz.prog 67 #[.string s,.func (.func 96) #[] #[]] w (RdP ProgR s w):=fun w=>by
  by_cases h:(wordsL s.data.toList).er = 0
  ·exact q2Q s w h
  ·exact q2m s w h
 obtain ⟨w0,hw0,hb0,hB⟩:=alK w #[.int .i64 0,.string ⟨#[]⟩,.int .u32 0,.int .i64 0,.slice none 0 0,.slice none 0 0] 26;have HR:=Hi (hrd w0);have HB0:=Hi hb0;have HB:=Hi hB;have HW:=Hi hw0;clear hb0 hw0 hB hrd;go_enter Tryz.func63,Tryz.ntmps63;go_wp2_with fail
 rw [HW.out];refine HR.out.mono ?_;rintro e w1 (⟨k,a,sx,n,A,la,cA,B,lb,cB,x,t,r,rfl,h1,h2,h3,hT,hb⟩ | ⟨a,er,rfl,hbad,hb⟩)
 ·have hX:=HB.out.below hb HB.out.lt;have hlt:=hX.lt;have hlb:=HB.out.lt;obtain ⟨⟨e0,e1,e2,e3,e4,e5⟩,z0,z1,z2,z3,z4,z5⟩:=Blk.c6 hX;have hN:=Blk.put6 hX (.int .i64 (k:Int)) (.string ⟨sx.toArray⟩) (.int .u32 (n:Int)) (.int .i64 (a:Int)) (.slice A la cA) (.slice B lb cB);have hu:Upd (fun b=>b=w.heap.size) w1 _:=q02 (X:=fun b=>b=w.heap.size) (Upd.refl _ w1) (fun _=>rfl) (.int .i64 (k:Int)) (.string ⟨sx.toArray⟩) (.int .u32 (n:Int)) (.int .i64 (a:Int)) (.slice A la cA) (.slice B lb cB);have HEND:=Hi (show RdP ProgR s w (.returned (.tuple #[.agg #[.int .i64 (k:Int),.string ⟨sx.toArray⟩,.int .u32 (n:Int),.int .i64 (a:Int),.slice A la cA,.slice B lb cB],.int .i64 0,.int .i64 0])) _ from
   .inl ⟨k,a,sx,n,A,la,cA,B,lb,cB,x,t,r,rfl,h1,h2,h3,(TIn.far hT hu fun b hb=>V0).up V0,((Upd.of_below (HB0.out.trans (hb.mono HB0.out.size)) (fun b=>b=w.heap.size)).trans hu).below (Nat.le_refl _) fun k hk=>V0⟩)
  exact V2v
 ·have hX:=HB.out.below hb HB.out.lt;obtain ⟨⟨e0,e1,e2,e3,e4,e5⟩,z0,z1,z2,z3,z4,z5⟩:=Blk.c6 hX;have hN:=Blk.put6 hX (.int .i64 0) (.string ⟨#[]⟩) (.int .u32 0) (.int .i64 0) (.slice none 0 0) (.slice none 0 0);have hu:Upd (fun b=>b=w.heap.size) w1 _:=q02 (X:=fun b=>b=w.heap.size) (Upd.refl _ w1) (fun _=>rfl) (.int .i64 0) (.string ⟨#[]⟩) (.int .u32 0) (.int .i64 0) (.slice none 0 0) (.slice none 0 0);have HEND:=Hi (show RdP ProgR s w (.returned (.tuple #[.agg #[.int .i64 0,.string ⟨#[]⟩,.int .u32 0,.int .i64 0,.slice none 0 0,.slice none 0 0],.int .i64 (a:Int),.int .i64 (er:Int)])) _ from .inr ⟨a,er,rfl,hbad,((Upd.of_below (HB0.out.trans (hb.mono HB0.out.size)) (fun b=>b=w.heap.size)).trans hu).below (Nat.le_refl _) fun k hk=>V0⟩);exact V2y
theorem p_expr(s:ByteArray)(w:World):Calls Tryz.prog 32 #[.string s] w (RdP ExprR s w):=by
 have hrd:∀ w,Calls Tryz.prog 67 #[.string s,.func (.func 68) #[] #[]] w (RdP ExprR s w):=fun w=>by
  by_cases h:(wordsL s.data.toList).er = 0
  ·exact q4t s w h
  ·exact q3A s w h
 obtain ⟨w0,hw0,hb0,hB⟩:=alK w #[.int .i64 0,.string ⟨#[]⟩,.int .u32 0,.int .i64 0,.slice none 0 0,.slice none 0 0] 26;have HR:=Hi (hrd w0);have HB0:=Hi hb0;have HB:=Hi hB;have HW:=Hi hw0;clear hb0 hw0 hB hrd;go_enter Tryz.func32,Tryz.ntmps32;go_wp2_with fail
 rw [HW.out];refine HR.out.mono ?_;rintro e w1 (⟨k,a,sx,n,A,la,cA,B,lb,cB,x,t,r,rfl,h1,h2,h3,hT,hb⟩ | ⟨a,er,rfl,hbad,hb⟩)
 ·have hX:=HB.out.below hb HB.out.lt;have hlt:=hX.lt;have hlb:=HB.out.lt;obtain ⟨⟨e0,e1,e2,e3,e4,e5⟩,z0,z1,z2,z3,z4,z5⟩:=Blk.c6 hX;have hN:=Blk.put6 hX (.int .i64 (k:Int)) (.string ⟨sx.toArray⟩) (.int .u32 (n:Int)) (.int .i64 (a:Int)) (.slice A la cA) (.slice B lb cB);have hu:Upd (fun b=>b=w.heap.size) w1 _:=q02 (X:=fun b=>b=w.heap.size) (Upd.refl _ w1) (fun _=>rfl) (.int .i64 (k:Int)) (.string ⟨sx.toArray⟩) (.int .u32 (n:Int)) (.int .i64 (a:Int)) (.slice A la cA) (.slice B lb cB);have HEND:=Hi (show RdP ExprR s w (.returned (.tuple #[.agg #[.int .i64 (k:Int),.string ⟨sx.toArray⟩,.int .u32 (n:Int),.int .i64 (a:Int),.slice A la cA,.slice B lb cB],.int .i64 0,.int .i64 0])) _ from
   .inl ⟨k,a,sx,n,A,la,cA,B,lb,cB,x,t,r,rfl,h1,h2,h3,(TIn.far hT hu fun b hb=>V0).up V0,((Upd.of_below (HB0.out.trans (hb.mono HB0.out.size)) (fun b=>b=w.heap.size)).trans hu).below (Nat.le_refl _) fun k hk=>V0⟩)
  exact V2v
 ·have hX:=HB.out.below hb HB.out.lt;obtain ⟨⟨e0,e1,e2,e3,e4,e5⟩,z0,z1,z2,z3,z4,z5⟩:=Blk.c6 hX;have hN:=Blk.put6 hX (.int .i64 0) (.string ⟨#[]⟩) (.int .u32 0) (.int .i64 0) (.slice none 0 0) (.slice none 0 0);have hu:Upd (fun b=>b=w.heap.size) w1 _:=q02 (X:=fun b=>b=w.heap.size) (Upd.refl _ w1) (fun _=>rfl) (.int .i64 0) (.string ⟨#[]⟩) (.int .u32 0) (.int .i64 0) (.slice none 0 0) (.slice none 0 0);have HEND:=Hi (show RdP ExprR s w (.returned (.tuple #[.agg #[.int .i64 0,.string ⟨#[]⟩,.int .u32 0,.int .i64 0,.slice none 0 0,.slice none 0 0],.int .i64 (a:Int),.int .i64 (er:Int)])) _ from .inr ⟨a,er,rfl,hbad,((Upd.of_below (HB0.out.trans (hb.mono HB0.out.size)) (fun b=>b=w.heap.size)).trans hu).below (Nat.le_refl _) fun k hk=>V0⟩);exact V2y
end
end Pa
namespace Pq
open Lx Args Pa
section
attribute [local go_sem] fTk0 fTk1 fTk2
theorem q4U(w:World)(cs:Array Value):∃ w0,(w.alloc (.cells cs 26)).alloc (.cells zNd 26)=w0/\Below w.heap.size w w0/\Blk w0 w.heap.size 26 cs/\Blk w0 (w.heap.size+1) 26 zNd:=by
 have hs:(w.alloc (.cells cs 26)).heap.size=w.heap.size+1:=V3;refine ⟨_,rfl,((Below.refl _ _).alloc (Nat.le_refl _) _).alloc V3 _,(Blk.new _ _ _).alloc _,?_⟩;rw [<-hs];exact Blk.new _ _ _
theorem done_ok(w:World)(bp:Nat)(t:Tk)(r:List Tk)(hp:QS w bp (t :: r) 0 0)(hk:t.k = 0)(k a n la cA lb cB:Nat)(s:Bs)(A B:Option Addr) :
  Calls Tryz.prog 27 #[.pointer (some ⟨bp,0,none⟩),.agg #[.int .i64 (k:Int),.string ⟨s.toArray⟩,.int .u32 (n:Int),.int .i64 (a:Int),.slice A la cA,.slice B lb cB]] w fun e w'=>
   e = .returned (.tuple #[.agg #[.int .i64 (k:Int),.string ⟨s.toArray⟩,.int .u32 (n:Int),.int .i64 (a:Int),.slice A la cA,.slice B lb cB],.int .i64 0,.int .i64 0])/\Below w.heap.size w w':=by
 obtain ⟨w0,hw0,hb0,hX,hY⟩:=q4U w #[.int .i64 (k:Int),.string ⟨s.toArray⟩,.int .u32 (n:Int),.int .i64 (a:Int),.slice A la cA,.slice B lb cB];have HT:=Hi (tok w0 bp 0 0 t r (hp.below hb0));have HP0:=Hi (hp.below hb0);have HB0:=Hi hb0;have HX:=Hi hX;have HY:=Hi hY;have HW:=Hi hw0;have hq:((t.k:Int) != 0)=false:=V4;clear hp hb0 hX hY hw0;go_enter Tryz.func27,Tryz.ntmps27;go_wp2_with fail
 rw [HW.out];refine HT.out.mono ?_;rintro e w1 ⟨rfl,hb1⟩;have HP1:=Hi (HP0.out.below hb1);have HBD:=Hi (q0r w1 bp 0 0 100 false t r HP1.out (.inl rfl));have hx:=HX.out.below hb1 HX.out.lt;have hy:=HY.out.below hb1 HY.out.lt;have HB1:=Hi (HB0.out.trans (hb1.mono HB0.out.size));obtain ⟨⟨e0,e1,e2,e3,e4,e5⟩,z0,z1,z2,z3,z4,z5⟩:=Blk.c6 hx;obtain ⟨⟨g0,g1,g2,g3,g4,g5⟩,y0,y1,y2,y3,y4,y5⟩:=Blk.c6 hy;have hxl:=hx.lt;have hyl:=hy.lt;obtain ⟨b',o,c,n',hn,hl,hc,hm,⟨c0,c1,c2,c3⟩,⟨u0,u1,u2,u3⟩,f4,f5,f6⟩:=HP1.out.head;have hbl:=HP1.out.lt;have HY1:=Hi hy;clear hx hy hb1 hn hl hc hm f4 f5 f6;go_wp2_with fail
 refine HBD.out.mono ?_;rintro e w' ⟨rfl,rfl⟩;go_wp2_with fail
 exact bodyPost_ret (v:=.tuple #[.agg #[.int .i64 (k:Int),.string ⟨s.toArray⟩,.int .u32 (n:Int),.int .i64 (a:Int),.slice A la cA,.slice B lb cB],.int .i64 0,.int .i64 0]) (q1j rfl _ _ rfl (Blk.put6 HY1.out _ _ _ _ _ _) rfl rfl rfl) rfl ⟨rfl,((((((HB1.out.setCell (Nat.le_succ _) _).setCell (Nat.le_succ _) _).setCell (Nat.le_succ _) _).setCell (Nat.le_succ _) _).setCell (Nat.le_succ _) _).setCell (Nat.le_succ _) _)⟩
end
end Pq
end Go.Proofs.YtcgibpdjfgjldaaGreatDoor
