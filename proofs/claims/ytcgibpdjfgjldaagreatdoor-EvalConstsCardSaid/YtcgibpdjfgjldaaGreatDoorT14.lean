/- DERIVED. LxWp, EvCo. By an AI agent. -/
import Derived.Test.YtcgibpdjfgjldaaGreatDoorT13
set_option maxRecDepth 100000
set_option maxHeartbeats 8000000
set_option linter.unusedVariables false
set_option linter.unusedSimpArgs false
open Go Go.ChangeShapes Go.WideShapes Go.ChangeAt Go.RowKit
namespace Go.Proofs.YtcgibpdjfgjldaaGreatDoor
namespace Lx
open Go.Shelf Args
section
attribute [local go_sem] Oper.semAt_some
theorem infoTk:(Tryz.prog.info? 63).map (fun i=>(i.zero,i.size,i.bytes))=some (some (.agg #[.int .i64 0,.string ⟨#[]⟩,.int .i64 0]),3,32):=V1
def PWordsP(s:ByteArray)(w:World)(e:Ending)(w':World):Prop:=
 ∃ A c,e = .returned (.tuple #[.slice A (wordsL s.data.toList).l.length c,.int .i64 ((wordsL s.data.toList).at_:Int),.int .i64 ((wordsL s.data.toList).er:Int)])/\Lies w' A ((wordsL s.data.toList).l.flatMap tkC)/\Below w.heap.size w w'/\(wordsL s.data.toList).l.length<=c/\c<=maxLen
theorem isAggL(w:World):(isAgg 55).run Tryz.prog w = .ok false w:=run_isAgg_plain Tryz.underlying55 rfl w
theorem isAggI(w:World):(isAgg 3).run Tryz.prog w = .ok false w:=run_isAgg_plain Tryz.underlying3 rfl w
def R3(n:Nat)(a b c:Value)(W:World):Prop:=Blk W n 55 #[a]/\Blk W (n+1) 3 #[b]/\Blk W (n+2) 27 #[c]
theorem q8x{n:Nat}{a b c:Value}{W:World}(h:R3 n a b c W)(tmps:Array Value)(h2:tmps.getD 2 undef = .pointer (some ⟨n,0,none⟩))(h3:tmps.getD 3 undef = .pointer (some ⟨n+1,0,none⟩))(h4:tmps.getD 4 undef = .pointer (some ⟨n+2,0,none⟩)) :
  (results Tryz.f99 tmps).run Tryz.prog W = .ok (.tuple #[a,b,c]) W:=
 q1L rfl tmps W n (n+1) (n+2) a b c h2 h3 h4 (q03 (isAggL W) (h.1.cell 0)) (q03 (isAggI W) (h.2.1.cell 0)) (q03 (isAggE W) (h.2.2.cell 0))
def put3(w:World)(n:Nat)(a b c:Value):World:=((w.setCell ⟨n,0,none⟩ a).setCell ⟨n+1,0,none⟩ b).setCell ⟨n+2,0,none⟩ c
theorem q6e{n:Nat}{a b c:Value}{W:World}(h:R3 n a b c W)(a' b' c':Value):R3 n a' b' c' (put3 W n a' b' c'):=by
 obtain ⟨h1,h2,h3⟩:=h;refine ⟨?_,?_,?_⟩
 ·exact ((h1.set 0 a').far (p:=⟨n+1,0,none⟩) (by show n≠n+1;omega) b').far (p:=⟨n+2,0,none⟩) (by show n≠n+2;omega) c'
 ·exact ((h2.far (p:=⟨n,0,none⟩) V13 a').set 0 b').far (p:=⟨n+2,0,none⟩) (by show n+1≠n+2;omega) c'
 ·exact ((h3.far (p:=⟨n,0,none⟩) (by show n+2≠n;omega) a').far (p:=⟨n+1,0,none⟩) (by show n+2≠n+1;omega) b').set 0 c'
theorem q2c{w0 w:World}{B n:Nat}(h:Below B w0 w)(hB:B<=n)(a b c:Value):Below B w0 (put3 w n a b c):=
 ((h.setCell (p:=⟨n,0,none⟩) hB a).setCell (p:=⟨n+1,0,none⟩) (by show B<=n+1;omega) b).setCell (p:=⟨n+2,0,none⟩) (by show B<=n+2;omega) c
theorem q2d(W:World)(n:Nat)(a b c:Value):KeepsOthers W (put3 W n a b c):=
 ((KeepsOthers.setCell W ⟨n,0,none⟩ a).trans (KeepsOthers.setCell _ ⟨n+1,0,none⟩ b)).trans (KeepsOthers.setCell _ ⟨n+2,0,none⟩ c)
theorem q1Y{n:Nat}{a b c:Value}{W:World}(h:R3 n a b c W)(o:Obj):R3 n a b c (W.alloc o):=⟨h.1.alloc o,h.2.1.alloc o,h.2.2.alloc o⟩
theorem q5f{n:Nat}{a b c:Value}{A W:World}{row:Option Nat}(h:R3 n a b c A)(hg:A.grownBy W row)(hr:∀ r,row=some r->n+2 < r):R3 n a b c W:=
 ⟨(hg.block _ h.1.lt (fun e=>V23)).trans h.1,(hg.block _ h.2.1.lt (fun e=>V23)).trans h.2.1,(hg.block _ h.2.2.lt (fun e=>V23)).trans h.2.2⟩
def tks(pre:List (Tk×Nat)):List Tk:=pre.map (·.1)
def WdI(w:World)(pre:List (Tk×Nat))(W:World):Prop:=(∀ x∈pre,x.2 = 0)/\pre.length<=4000/\R3 w.heap.size (.slice none 0 0) (.int .i64 0) (.int .i64 0) W /\
 (∃ g c,Blk W (w.heap.size+4) 55 #[.slice (some ⟨g,0,none⟩) pre.length c]/\W.ownsRow (w.heap.size+3) 63 3 (.slice (some ⟨g,0,none⟩) pre.length c) pre.length ((tks pre).flatMap tkC))/\Below w.heap.size w W
def WdX(w:World)(c:Code)(pre:List (Tk×Nat))(W:World):Prop:=c = .ret/\∃ q x,∃ er:Nat,pre=q ++ [x]/\(∀ y∈q,y.2 = 0)/\q.length<=4000/\((x.2≠0/\er=x.2)\/(x.2 = 0/\q.length = 4000/\er = 150)) /\
 R3 w.heap.size (.slice none 0 0) (.int .i64 (x.1.at_:Int)) (.int .i64 (er:Int)) W/\Below w.heap.size w W
def WdA(s:ByteArray)(w:World)(x:Tk×Nat)(a':Act)(W:World):Prop:=∃ Bt,w.heap.size+4 < Bt/\Blk W Bt 63 #[.int .i64 (x.1.k:Int),.string ⟨x.1.s.toArray⟩,.int .i64 (x.1.at_:Int)] /\
 a'={ tmps:=#[.string s,undef,.pointer (some ⟨w.heap.size,0,none⟩),.pointer (some ⟨w.heap.size+1,0,none⟩),.pointer (some ⟨w.heap.size+2,0,none⟩),.pointer (some ⟨w.heap.size+4,0,none⟩),.pointer (some ⟨Bt,0,none⟩),.int .i64 (x.2:Int),.string s,.int .i64 (s.size:Int),.bool false,.slice (some ⟨w.heap.size+3,0,none⟩) 0 0,.string s,.func (.func 155) #[] #[.pointer (some ⟨w.heap.size+5,0,none⟩)],.agg #[.int .i64 (x.1.k:Int),.string ⟨x.1.s.toArray⟩,.int .i64 (x.1.at_:Int)],.int .i64 (x.2:Int),undef,undef,undef,undef,undef,undef,undef,undef,undef,undef,undef,undef,undef,undef,undef],defers:=[] }
theorem q0Q{B g:Nat}{t:TypeId}{cs:Array Value}{A W:World}{row:Option Nat}(h:Blk A g t cs)(hg:A.grownBy W row)(hr:∀ r,row=some r->B<=r/\∃ o:Obj,A.heap[r]?=some o/\o.isCells=false):Blk W g t cs:=
 (hg.block g h.lt (fun e=>by obtain ⟨_,o,ho,hc⟩:=hr g e.symm;rw [show A.heap[g]?=_ from h] at ho;cases ho;cases hc)).trans h
theorem q5g{B n:Nat}{a b c:Value}{A W:World}{row:Option Nat}(h:R3 n a b c A)(hg:A.grownBy W row)(hr:∀ r,row=some r->B<=r/\∃ o:Obj,A.heap[r]?=some o/\o.isCells=false):R3 n a b c W:=
 ⟨q0Q h.1 hg hr,q0Q h.2.1 hg hr,q0Q h.2.2 hg hr⟩
theorem q2e{B n:Nat}{w A W:World}{row:Option Nat}(h:Below n w A)(hg:A.grownBy W row)(hr:∀ r,row=some r->B<=r/\∃ o:Obj,A.heap[r]?=some o/\o.isCells=false)(hB:n<=B)(hs:n<=A.heap.size):Below n w W:=
 h.grown hg hs fun k hk=>by have:=(hr k hk).1;omega
theorem q6f{B base size n:Nat}{e:TypeId}{v:Value}{xs:List Value}{A W:World}{row:Option Nat}(h:A.ownsRow base e size v n xs)(hg:A.grownBy W row)(hr:∀ r,row=some r->B<=r/\∃ o:Obj,A.heap[r]?=some o/\o.isCells=false):W.ownsRow base e size v n xs:=by
 refine ⟨h.1,h.2.imp id fun ⟨g,cap,cur,e1,hb,hh,r⟩=>⟨g,cap,cur,e1,hb,?_,r⟩⟩;have hl:=(Array.getElem?_eq_some_iff.1 hh).1;exact (hg.block g hl (fun e2=>by obtain ⟨_,o,ho,hc⟩:=hr g e2.symm;rw [hh] at ho;cases ho;cases hc)).trans hh
theorem wdI_own(w:World){B:Nat}(hB:w.heap.size<=B):OwnFrom B (WdI w):=fun pre A W row ⟨h1,h2,h3,⟨g,c,h4,h5⟩,h6⟩ hg hr=>
 ⟨h1,h2,q5g h3 hg hr,⟨g,c,q0Q h4 hg hr,q6f h5 hg hr⟩,q2e h6 hg hr hB h6.size⟩
theorem wdX_own(w:World){B:Nat}(hB:w.heap.size<=B)(c:Code):OwnFrom B (WdX w c):=fun pre A W row ⟨h0,q,x,er,h1,h2,h3,h4,h5,h6⟩ hg hr=>
 ⟨h0,q,x,er,h1,h2,h3,h4,q5g h5 hg hr,q2e h6 hg hr hB h6.size⟩
theorem wdA_own(s:ByteArray)(w:World){B:Nat}(x:Tk×Nat)(a':Act):OwnFrom B (fun (_:Unit) W=>WdA s w x a' W):=fun _ A W row ⟨Bt,h1,h2,h3⟩ hg hr=>⟨Bt,h1,q0Q h2 hg hr,h3⟩
theorem q6g{w:World}{pre:List (Tk×Nat)}{W:World}(h:WdI w pre W)(o:Obj):WdI w pre (W.alloc o):=by
 obtain ⟨h1,h2,h3,⟨g,c,h4,h5⟩,h6⟩:=h;exact ⟨h1,h2,q1Y h3 o,⟨g,c,h4.alloc o,h5.alloc o⟩,h6.alloc h6.size o⟩
def wdW(a b c:Value)(w:World):World:=((w.alloc (.cells #[a] 55)).alloc (.cells #[b] 3)).alloc (.cells #[c] 27)
theorem q7L(a b c:Value)(w:World):(wdW a b c w).heap.size=w.heap.size+3:=by unfold wdW;simp
theorem q8y(a b c:Value)(w:World):R3 w.heap.size a b c (wdW a b c w):=by
 refine ⟨((Blk.new w _ _).alloc _).alloc _,?_,?_⟩
 ·have:=(Blk.new (w.alloc (.cells #[a] 55)) 3 #[b]).alloc (.cells #[c] 27);rw [World.size_alloc] at this;exact this
 ·have:=Blk.new ((w.alloc (.cells #[a] 55)).alloc (.cells #[b] 3)) 27 #[c];rw [World.size_alloc,World.size_alloc] at this;exact this
theorem q45(a b c:Value)(w:World):Below w.heap.size w (wdW a b c w):=(((Below.refl _ w).alloc (Nat.le_refl _) _).alloc V3 _).alloc V4 _
def wdB(s:ByteArray)(w:World):World:=(((wdW (.slice none 0 0) (.int .i64 0) (.int .i64 0) w).alloc (.cells #[] 63)).alloc (.cells #[.slice (some ⟨w.heap.size+3,0,none⟩) 0 0] 55)).alloc (.cells #[.string s] 9)
theorem q6h(s:ByteArray)(w:World):(wdB s w).heap.size=w.heap.size+6/\WdI w [] (wdB s w)/\TkI (w.heap.size+4) (w.heap.size+5) s (wdB s w):=by
 have hs:=q7L (.slice none 0 0) (.int .i64 0) (.int .i64 0) w;have hr:=q8y (.slice none 0 0) (.int .i64 0) (.int .i64 0) w;have hb:=q45 (.slice none 0 0) (.int .i64 0) (.int .i64 0) w;unfold wdB;generalize wdW (.slice none 0 0) (.int .i64 0) (.int .i64 0) w=w1 at *;have o1:=own_empty w1 (Nat.le_refl _) 63 3;rw [hs] at o1;have b4:=(Blk.new (w1.alloc (.cells #[] 63)) 55 #[.slice (some ⟨w.heap.size+3,0,none⟩) 0 0]).alloc (.cells #[.string s] 9);rw [World.size_alloc,hs] at b4;have b5:=Blk.new ((w1.alloc (.cells #[] 63)).alloc (.cells #[.slice (some ⟨w.heap.size+3,0,none⟩) 0 0] 55)) 9 #[.string s];rw [World.size_alloc,World.size_alloc,hs] at b5;have hsz:(((w1.alloc (.cells #[] 63)).alloc (.cells #[.slice (some ⟨w.heap.size+3,0,none⟩) 0 0] 55)).alloc (.cells #[.string s] 9)).heap.size=w.heap.size+6:=by simp [hs]
 refine ⟨hsz,⟨fun x hx=>(by cases hx),Nat.zero_le _,q1Y (q1Y (q1Y hr _) _) _,⟨w.heap.size+3,0,b4,(o1.alloc _).alloc _⟩,((hb.alloc hb.size _).alloc V4 _).alloc V4 _⟩,?_⟩;have hA:∀ k,Arr (((w1.alloc (.cells #[] 63)).alloc (.cells #[.slice (some ⟨w.heap.size+3,0,none⟩) 0 0] 55)).alloc (.cells #[.string s] 9)) (w.heap.size+4) k->k=w.heap.size+3:=fun k ⟨o,n,c,h⟩=>by
  have h2:=b4.cell 0;rw [h] at h2;cases h2;rfl
 exact ⟨by rw [hsz];omega,fun k hk=>by rw [hA k hk,hsz];omega,b5,V0,fun ha=>by have:=hA _ ha;omega⟩
theorem q4I(s:ByteArray)(h:20000 < s.size)(w:World):Calls Tryz.prog 99 #[.string s] w (PWordsP s w):=by
 have hw:=q24 s.data.toList (by rw [q1E];exact h);have i1:decide ((20000:Int) < (s.size:Int))=true:=V4;have HP:Hid (∀ w',Below w.heap.size w w'->PWordsP s w (.returned (.tuple #[.slice none 0 0,.int .i64 0,.int .i64 150])) w'):=Hi fun w' hb=>⟨none,0,by rw [hw];rfl,by rw [hw];exact Lies.nil _ _,hb,by rw [hw];exact Nat.le_refl _,V2⟩
 clear hw;generalize PWordsP s w=Q at *;go_enter Tryz.func99,Tryz.ntmps99;go_wp2_with fail
 refine bodyPost_ret (q8x (q8y (.slice none 0 0) (.int .i64 0) (.int .i64 150) w) _ rfl rfl rfl) rfl ?_;exact HP.out _ (q45 _ _ _ w)
theorem own_cap{W:World}{base size n g c:Nat}{e:TypeId}{xs:List Value}(h:W.ownsRow base e size (.slice (some ⟨g,0,none⟩) n c) n xs):n<=c/\c<=maxLen:=by
 rcases h.2 with ⟨h,_⟩ | ⟨g',cap,cur,h,_,_,h1,h2,_⟩
 ·cases h
 ·cases h;exact ⟨h1,h2⟩
theorem q6i{W:World}{base n lb:Nat}{g c:Nat}{xs:List Value}{u:Value}(h:W.ownsRow base 63 3 (.slice (some ⟨g,0,none⟩) n c) n xs)(hb:Blk W lb 55 #[u]):g≠lb/\base<=g/\g < W.heap.size:=by
 rcases h.2 with ⟨h0,_⟩ | ⟨g',cap,cur,e1,hg,hh,_⟩
 ·cases h0
 ·cases e1;refine ⟨fun e=>?_,hg,(Array.getElem?_eq_some_iff.1 hh).1⟩;subst e;rw [show W.heap[g]?=_ from hb] at hh;cases hh
theorem q7M(pre:List (Tk×Nat))(x:Tk×Nat):(tks (pre ++ [x])).flatMap tkC=(tks pre).flatMap tkC ++ tkC x.1:=by simp [tks]
theorem q6j{w W w8:World}{pre:List (Tk×Nat)}{t:Tk}{g c g' c':Nat}{o:Obj}(h1:∀ x∈pre,x.2 = 0)(hlen:pre.length < 4000)
  (h3:R3 w.heap.size (.slice none 0 0) (.int .i64 0) (.int .i64 0) W) (h4:Blk W (w.heap.size+4) 55 #[.slice (some ⟨g,0,none⟩) pre.length c])
  (h5:W.ownsRow (w.heap.size+3) 63 3 (.slice (some ⟨g,0,none⟩) pre.length c) pre.length ((tks pre).flatMap tkC)) (h6:Below w.heap.size w W)
  (k2:w8.ownsRow (w.heap.size+3) 63 3 (.slice (some ⟨g',0,none⟩) (pre.length+1) c') (pre.length+1) ((tks pre).flatMap tkC ++ tkC t)) (k3:(W.alloc o).grownBy w8 (some g)) (k4:some g'=some g\/g'=(W.alloc o).heap.size) :
  KeepsOthers W (w8.setCell ⟨w.heap.size+4,0,none⟩ (.slice (some ⟨g',0,none⟩) (pre.length+1) c'))/\KA (w.heap.size+4) W (w8.setCell ⟨w.heap.size+4,0,none⟩ (.slice (some ⟨g',0,none⟩) (pre.length+1) c')) /\
   WdI w (pre ++ [(t,0)]) (w8.setCell ⟨w.heap.size+4,0,none⟩ (.slice (some ⟨g',0,none⟩) (pre.length+1) c')):=by
 obtain ⟨n1,n2,n3⟩:=q6i h5 h4;have hl4:=h4.lt;have hgr:=grownBy_setCell' w8 (w.heap.size+4) (.slice (some ⟨g',0,none⟩) (pre.length+1) c');have b8:Blk w8 (w.heap.size+4) 55 #[.slice (some ⟨g,0,none⟩) pre.length c]:=(k3.block _ V4 (fun e=>n1 Vu)).trans (h4.alloc o);obtain ⟨m1,m2,m3⟩:=q6i k2 b8;have b9:=b8.set 0 (.slice (some ⟨g',0,none⟩) (pre.length+1) c');have hsz8:W.heap.size+1<=w8.heap.size:=by have:=k3.size;simpa using this
 have hsz9:=hgr.size;have hA9:∀ k,Arr (w8.setCell ⟨w.heap.size+4,0,none⟩ (.slice (some ⟨g',0,none⟩) (pre.length+1) c')) (w.heap.size+4) k->k=g':=fun k ⟨o,n,c2,h⟩=>by
  have h2:=b9.cell 0;rw [h] at h2;cases h2;rfl
 have hAW:Arr W (w.heap.size+4) g:=⟨0,pre.length,c,h4.cell 0⟩;have hkeep:∀ (k:Nat) (o2:Obj),k≠w.heap.size+4->k≠g->W.heap[k]?=some o2->(w8.setCell ⟨w.heap.size+4,0,none⟩ (.slice (some ⟨g',0,none⟩) (pre.length+1) c')).heap[k]?=some o2:=fun k o2 e1 e2 hk=>by
  have hlt:=(Array.getElem?_eq_some_iff.1 hk).1;rw [hgr.block k V0 (fun e=>e1 Vu),k3.block k V4 (fun e=>e2 Vu),Below.heap_alloc W o k hlt];exact hk
 refine ⟨⟨V0,fun k o2 hk hc=>?_⟩,⟨V0,fun k hk=>?_,fun _ k hk=>by rw [hA9 k hk];omega,fun k o2 e1 e2 hk _=>hkeep k o2 e1 (fun e=>e2 (e ▸ hAW)) hk⟩,?_⟩
 ·refine hkeep k o2 (fun e=>?_) (fun e=>?_) hk
  ·subst e;rw [show W.heap[w.heap.size+4]?=_ from h4] at hk;cases hk;cases hc
  ·subst e;rcases h5.2 with ⟨h0,_⟩ | ⟨g2,cap,cur,e1,_,hh,_⟩
   ·cases h0
   ·cases e1;rw [hh] at hk;cases hk;cases hc
 ·rw [hA9 k hk];rcases k4 with h | h
  ·cases h;exact .inl hAW
  ·rw [h];exact .inr V3
 ·refine ⟨fun x hx=>?_,V4,?_,⟨g',c',by simpa using b9,?_⟩,?_⟩
  ·rcases List.mem_append.1 hx with hx | hx
   ·exact h1 x hx
   ·rw [List.mem_singleton.1 hx]
  ·exact q5f (q5f (q1Y h3 o) k3 (fun r e=>Vb)) hgr (fun r e=>Vb)
  ·rw [q7M,List.length_append];exact k2.kept hgr (.inr (by simp only [Value.ownBlock];exact fun e=>m1 Vu))
  ·exact ((h6.alloc h6.size o).grown k3 (by simp;have:=h6.size;omega) (fun k e=>Vb)).grown hgr V0 (fun k e=>Vb)
theorem q7N{W:World}{base n m g c:Nat}{xs:List Value}(h:W.ownsRow base 63 3 (.slice (some ⟨g,0,none⟩) m c) m xs)(hb:n+2 < base)(u v z:Value):(put3 W n u v z).ownsRow base 63 3 (.slice (some ⟨g,0,none⟩) m c) m xs:=by
 have hg:base<=g:=by
  rcases h.2 with ⟨h0,_⟩ | ⟨g',cap,cur,e1,hg,_⟩
  ·cases h0
  ·cases e1;exact hg
 refine ((h.kept (grownBy_setCell' W n u) (.inr ?_)).kept (grownBy_setCell' _ (n+1) v) (.inr ?_)).kept (grownBy_setCell' _ (n+2) z) (.inr ?_) <;>
  (simp only [Value.ownBlock];intro e;cases e;omega)
theorem pwords(s:ByteArray)(w:World):Calls Tryz.prog 99 #[.string s] w (PWordsP s w):=by
 by_cases h20:20000 < s.size
 ·exact q4I s h20 w
 have i1:decide ((20000:Int) < (s.size:Int))=false:=V4;obtain ⟨i0,hi,hz0,hz1,hz2⟩:=info_parts infoTk;have HIF:=Hi hi;have HZ0:=Hi hz0;have HZ1:=Hi hz1;have HZ2:=Hi hz2;have HTK:=Hi (ptokens s);have hs20:s.size<=20000:=V0;obtain ⟨hwB,hI0,hT0⟩:=q6h s w;have HWB:=Hi hwB;have HI0:=Hi hI0;have HT0:=Hi hT0;clear hi hz0 hz1 hz2 h20 hwB hI0 hT0;refine (callsIn_wide (n:=3)).1 ?_;refine callsIn_of_wp_marks Tryz.func99 rfl trivial ?_ rfl;simp only [Tryz.ntmps99,List.size_toArray,List.length_cons,List.length_nil,Nat.reduceAdd,Nat.reduceSub,Array.replicate_succ,Array.replicate_zero,List.push_toArray,List.append_toArray,List.nil_append,List.cons_append]
 gi_wp2_with (refine ⟨trivial,?_⟩;gi_at_call 126;refine (callsIn_wide.2 (HTK.out _)).mono ?_;rintro e w' ⟨rfl,hw2⟩;rw [hw2];clear hw2)
 simp only [Nat.add_assoc,Nat.reduceAdd];refine wpIn_rangeFunc_ownH (w:=wdB s w) rfl V2 (gf:=155) (lb:=#[.pointer (some ⟨w.heap.size+5,0,none⟩)]) rfl trivial (enters_of Tryz.func155 V1 rfl)
  (q44 2 V2 (w.heap.size+4) (w.heap.size+5) s hs20 (wdB s w) HT0.out) ka_t (ka_b HT0.out.lt) (Below.refl _ _) (fun _=>rfl)
  (WdI w) (WdX w) (wdI_own w (by rw [HWB.out];omega)) (wdX_own w (by rw [HWB.out];omega)) HI0.out (WdA s w) (wdA_own s w) ?assign ?body ?done ?stop
 case assign=>
  intro l pre x W K hi hK;have hl4:w.heap.size+4 < W.heap.size:=by obtain ⟨_,_,_,⟨g,c,h4,_⟩,_⟩:=hi;exact h4.lt
  simp only [encT]
  gi_wp2
  exact hK _ _ ((KeepsOthers.alloc _ _).from _) (q7K hl4 _) (q6g hi _) ⟨W.heap.size,hl4,Blk.new _ _ _,rfl⟩
 case body=>
  rintro l pre ⟨⟨tk,ts,ta⟩,te⟩ a' W hl ⟨r,hr⟩ hI ⟨Bt,hBt,bt,rfl⟩ hlt;obtain ⟨h1,h2,h3,⟨g,c,h4,h5⟩,h6⟩:=hI;have hmx:Tryz.prog.follows .mixedOrders=true:=V1;have b0:=bt.cell 0;have b1:=bt.cell 1;have b2:=bt.cell 2;have l0:=h4.cell 0;have r0:=h3.1.cell 0;have r1:=h3.2.1.cell 0;have r2:=h3.2.2.cell 0;have f0:=h3.1.frozen 0;have f1:=h3.2.1.frozen 0;have f2:=h3.2.2.frozen 0;have f4:=h4.frozen 0;simp only [List.getElem?_toArray,List.getElem?_cons_zero,List.getElem?_cons_succ] at b0 b1 b2 l0 r0 r1 r2;have hws:=h6.size;dsimp only at b0 b1 b2 ⊢;have HR3:=Hi h3;have HB6:=Hi h6;have H1:=Hi h1;by_cases hte:te≠0
  ·have i2:((te:Int) != 0)=true:=by simp;omega
   have HX:Hid (WdX w .ret (pre ++ [(⟨tk,ts,ta⟩,te)]) (put3 W.drew w.heap.size (.slice none 0 0) (.int .i64 (ta:Int)) (.int .i64 (te:Int)))):=
    Hi ⟨rfl,pre,_,te,rfl,h1,h2,.inl ⟨hte,rfl⟩,q6e (W:=W.drew) h3 _ _ _,q2c (w:=W.drew) ⟨h6.os,h6.tape,h6.output,h6.size,h6.block⟩ (Nat.le_refl _) _ _ _⟩
   clear h1 h3 h4 h5 h6 hte bt;have hS0:W.drew.cell? ⟨Bt,2,none⟩=some (.int .i64 (ta:Int)):=b2
   gi_wp2
   refine Rd.region_in (S:=fun w'=>w'.cell? ⟨Bt,2,none⟩=some (.int .i64 (ta:Int))) hmx V1 (fun ⟨_,_,h⟩=>h) hS0 (fun hH=>?_);refine wpAnyH_take (i:=0) (v:=?_) rfl V1 V1 V1 (fun _ _ _ h=>h) (Or.inl ⟨V5,?_⟩) V0B ?_;rotate_left
   ·exact V0g
   try simp only [Act.put,List.getElem_toArray,List.getElem_cons_succ,List.getElem_cons_zero,List.setIfInBounds_toArray,List.set_cons_zero,List.set_cons_succ]
   refine wpAnyH_take (i:=1) (v:=?_) rfl V1 V1 V1 (fun _ _ _ h=>h) (Or.inl ⟨V5,?_⟩) V0B ?_;rotate_left
   ·exact V0g
   try simp only [Act.put,List.getElem_toArray,List.getElem_cons_succ,List.getElem_cons_zero,List.setIfInBounds_toArray,List.set_cons_zero,List.set_cons_succ]
   refine wpAnyH_take (i:=2) (v:=?_) rfl V1 V1 V1 (fun _ _ _ h=>h) (Or.inl ⟨V5,?_⟩) V0B ?_;rotate_left
   ·exact V0g
   try simp only [Act.put,List.getElem_toArray,List.getElem_cons_succ,List.getElem_cons_zero,List.setIfInBounds_toArray,List.set_cons_zero,List.set_cons_succ]
   refine wpAnyH_ready (rs:=[3]) V1 V3 (AllReadyH.cons rfl (fun K hK=>?_) AllReadyH.nil);go_simp;refine hK.out _ _ ((World.cell?_setCell_other _ _ _ _ V01).trans hH) (fun hN=>?_);clear hK K hH;have hH:=hN;clear hN
   try simp only [Act.put,List.getElem_toArray,List.getElem_cons_succ,List.getElem_cons_zero,List.setIfInBounds_toArray,List.set_cons_zero,List.set_cons_succ]
   refine wpAnyH_ready (rs:=[4]) V1 V3 (AllReadyH.cons rfl (fun K hK=>?_) AllReadyH.nil);go_simp;refine hK.out _ _ ((World.cell?_setCell_other _ _ _ _ V01).trans hH) (fun hN=>?_);clear hK K hH;have hH:=hN;clear hN
   try simp only [Act.put,List.getElem_toArray,List.getElem_cons_succ,List.getElem_cons_zero,List.setIfInBounds_toArray,List.set_cons_zero,List.set_cons_succ]
   refine wpAnyH_ready (rs:=[5]) V1 V3 (AllReadyH.cons rfl (fun K hK=>?_) AllReadyH.nil);go_simp;refine hK.out _ _ ((World.cell?_setCell_other _ _ _ _ V01).trans hH) (fun hN=>?_);clear hK K hH;have hH:=hN;clear hN
   try simp only [Act.put,List.getElem_toArray,List.getElem_cons_succ,List.getElem_cons_zero,List.setIfInBounds_toArray,List.set_cons_zero,List.set_cons_succ]
   refine wpAnyH_done V1 ?_ _;dsimp only [Exit.then]
   gi_wp2
   exact ⟨((KeepsOthers.drew W).trans (q2d W.drew _ _ _ _)).from _,HX.out⟩
  ·obtain rfl:te = 0:=by omega
   clear hte;by_cases h40:pre.length = 4000
   ·have i4:((pre.length:Int)==4000)=true:=by simp;omega
    have i5:decide ((pre.length:Int) = 4000)=true:=V4;have HX:Hid (WdX w .ret (pre ++ [(⟨tk,ts,ta⟩,0)]) (put3 W.drew w.heap.size (.slice none 0 0) (.int .i64 (ta:Int)) (.int .i64 150))):=
     Hi ⟨rfl,pre,_,150,rfl,h1,h2,.inr ⟨rfl,h40,rfl⟩,q6e (W:=W.drew) h3 _ _ _,q2c (w:=W.drew) ⟨h6.os,h6.tape,h6.output,h6.size,h6.block⟩ (Nat.le_refl _) _ _ _⟩
    clear h1 h3 h4 h5 h6 bt h40;have hS0:W.drew.cell? ⟨Bt,2,none⟩=some (.int .i64 (ta:Int)):=b2
    gi_wp2
    refine Rd.region_in (S:=fun w'=>w'.cell? ⟨Bt,2,none⟩=some (.int .i64 (ta:Int))) hmx V1 (fun ⟨_,_,h⟩=>h) hS0 (fun hH=>?_);refine wpAnyH_take (i:=0) (v:=?_) rfl V1 V1 V1 (fun _ _ _ h=>h) (Or.inl ⟨V5,?_⟩) V0B ?_;rotate_left
    ·exact V0g
    try simp only [Act.put,List.getElem_toArray,List.getElem_cons_succ,List.getElem_cons_zero,List.setIfInBounds_toArray,List.set_cons_zero,List.set_cons_succ]
    refine wpAnyH_take (i:=1) (v:=?_) rfl V1 V1 V1 (fun _ _ _ h=>h) (Or.inl ⟨V5,?_⟩) V0B ?_;rotate_left
    ·exact V0g
    try simp only [Act.put,List.getElem_toArray,List.getElem_cons_succ,List.getElem_cons_zero,List.setIfInBounds_toArray,List.set_cons_zero,List.set_cons_succ]
    refine wpAnyH_ready (rs:=[2]) V1 V3 (AllReadyH.cons rfl (fun K hK=>?_) AllReadyH.nil);go_simp;refine hK.out _ _ ((World.cell?_setCell_other _ _ _ _ V01).trans hH) (fun hN=>?_);clear hK K hH;have hH:=hN;clear hN
    try simp only [Act.put,List.getElem_toArray,List.getElem_cons_succ,List.getElem_cons_zero,List.setIfInBounds_toArray,List.set_cons_zero,List.set_cons_succ]
    refine wpAnyH_ready (rs:=[3]) V1 V3 (AllReadyH.cons rfl (fun K hK=>?_) AllReadyH.nil);go_simp;refine hK.out _ _ ((World.cell?_setCell_other _ _ _ _ V01).trans hH) (fun hN=>?_);clear hK K hH;have hH:=hN;clear hN
    try simp only [Act.put,List.getElem_toArray,List.getElem_cons_succ,List.getElem_cons_zero,List.setIfInBounds_toArray,List.set_cons_zero,List.set_cons_succ]
    refine wpAnyH_ready (rs:=[4]) V1 V3 (AllReadyH.cons rfl (fun K hK=>?_) AllReadyH.nil);go_simp;refine hK.out _ _ ((World.cell?_setCell_other _ _ _ _ V01).trans hH) (fun hN=>?_);clear hK K hH;have hH:=hN;clear hN
    try simp only [Act.put,List.getElem_toArray,List.getElem_cons_succ,List.getElem_cons_zero,List.setIfInBounds_toArray,List.set_cons_zero,List.set_cons_succ]
    refine wpAnyH_done V1 ?_ _;dsimp only [Exit.then]
    gi_wp2
    exact ⟨((KeepsOthers.drew W).trans (q2d W.drew _ _ _ _)).from _,HX.out⟩
   ·have i4:((pre.length:Int)==4000)=false:=by simp;omega
    have i5:decide ((pre.length:Int) = 4000)=false:=V4;have HNW:=Hi (show ∀ (j:Nat) u,[Value.int .i64 (tk:Int),.string ⟨ts.toArray⟩,.int .i64 (ta:Int)][j]?=some u->(W.alloc (.cells #[.int .i64 (tk:Int),.string ⟨ts.toArray⟩,.int .i64 (ta:Int)] 63)).cell? ((⟨W.heap.size,0,none⟩:Addr).add j)=some u from fun j u hj=>by
     rw [Args.add_plain,Nat.zero_add,World.cell?_alloc_at _ _ _ _ rfl];simpa using hj)
    obtain ⟨n1,n2,n3⟩:=q6i h5 h4;have HOA:=Hi (show (W.alloc (.cells #[.int .i64 (tk:Int),.string ⟨ts.toArray⟩,.int .i64 (ta:Int)] 63)).ownsRow (w.heap.size+3) 63 3 (.slice (some ⟨g,0,none⟩) pre.length c) pre.length ((tks pre).flatMap tkC) from World.ownsRow.alloc h5 _);have HFIN:=Hi fun g' c' w8 k2 k3 k4=>q6j (w8:=w8) (g':=g') (c':=c') (o:=.cells #[.int .i64 (tk:Int),.string ⟨ts.toArray⟩,.int .i64 (ta:Int)] 63) (t:=⟨tk,ts,ta⟩) h1 V0 h3 h4 h5 h6 k2 k3 k4
    have HL4:=Hi h4;have hl4:=h4.lt;clear h1 h3 h4 h5 h6 bt h40
    gi_wp2_with (gi_at_builtin;refine q2T _ rfl (.tmp 26) (.tmp 28) 55 rfl (w.heap.size+3) 63 i0 (.agg #[.int .i64 0,.string ⟨#[]⟩,.int .i64 0]) 3 32 Tryz.underlying55 HIF.out HZ0.out HZ1.out HZ2.out rfl V2 _ pre.length _ rfl HOA.out ⟨W.heap.size,0,none⟩ 1 1 [.int .i64 (tk:Int),.string ⟨ts.toArray⟩,.int .i64 (ta:Int)] rfl rfl HNW.out V02 Va V0 V4 V2 ?_;intro g' c' w8 k2 k3 k4;have HF8:=Hi (HFIN.out g' c' w8 k2 k3 k4);have l8:w8.cell? ⟨w.heap.size+4,0,none⟩=some (.slice (some ⟨g,0,none⟩) pre.length c):=(show Blk w8 (w.heap.size+4) 55 #[.slice (some ⟨g,0,none⟩) pre.length c] from (k3.block _ V4 (fun e=>n1 Vu)).trans (HL4.out.alloc _)).cell 0;have f8:w8.frozen? ⟨w.heap.size+4,0,none⟩=false:=(show Blk w8 (w.heap.size+4) 55 #[.slice (some ⟨g,0,none⟩) pre.length c] from (k3.block _ V4 (fun e=>n1 Vu)).trans (HL4.out.alloc _)).frozen 0;clear k2 k3 k4)
    obtain ⟨q1,q2,q3⟩:=HF8.out;exact ⟨q1.from _,q2,q3⟩
 case done=>
  rintro D xs W hD rfl ⟨h1,h2,h3,⟨g,c,h4,h5⟩,h6⟩ hK;have hw:=q5U (s:=s.data.toList) (by rw [q1E];exact hs20) h1 h2;have hl:(itemsL s.data.toList).length=(tks (itemsL s.data.toList)).length:=by simp [tks]
  generalize (itemsL s.data.toList).length=N at *;have l0:=h4.cell 0;have r0:=h3.1.cell 0;have r1:=h3.2.1.cell 0;have r2:=h3.2.2.cell 0;have f0:=h3.1.frozen 0;have f1:=h3.2.1.frozen 0;have f2:=h3.2.2.frozen 0;simp only [List.getElem?_toArray,List.getElem?_cons_zero,List.getElem?_cons_succ] at l0 r0 r1 r2;have hk2:=(q2d W w.heap.size (.slice (some ⟨g,0,none⟩) N c) (.int .i64 0) (.int .i64 0)).same D _ hK rfl;have hsz:=HWB.out;have hr9:=q5g (B:=0) (q6e h3 (.slice (some ⟨g,0,none⟩) N c) (.int .i64 0) (.int .i64 0)) (grownBy_putObj' _ D (.deferred none)) (fun r e=>V4e);have hb9:=q0Z (q2c h6 (Nat.le_refl _) (.slice (some ⟨g,0,none⟩) N c) (.int .i64 0) (.int .i64 0)) (.deferred none) (by omega:w.heap.size<=D) hk2;have ho9:=q6f (B:=0) (q7N (n:=w.heap.size) h5 V0 (.slice (some ⟨g,0,none⟩) N c) (.int .i64 0) (.int .i64 0)) (grownBy_putObj' _ D (.deferred none)) (fun r e=>V4e);have HR9:=Hi hr9;have HK:=Hi hk2;have hcap:=own_cap ho9;have HP:Hid (PWordsP s w (.returned (.tuple #[.slice (some ⟨g,0,none⟩) N c,.int .i64 0,.int .i64 0])) ((put3 W w.heap.size (.slice (some ⟨g,0,none⟩) N c) (.int .i64 0) (.int .i64 0)).putObj D (.deferred none))):=
   Hi ⟨some ⟨g,0,none⟩,c,by rw [hw];show _=Ending.returned (.tuple #[.slice (some ⟨g,0,none⟩) (tks (itemsL s.data.toList)).length c,_,_]);rw [<-hl];rfl,by rw [hw];exact q0K ho9,hb9,by rw [hw];show (tks (itemsL s.data.toList)).length<=c;rw [<-hl];exact hcap.1,hcap.2⟩
  clear h1 h2 h3 h4 h5 h6 hw hl hr9 hb9 ho9 hsz;exact V3i
 case stop=>
  rintro D c pre W hD hp ⟨rfl,q,x,er,rfl,h1,h2,h3,h4,h5⟩ hK;obtain ⟨w1,w2⟩:=q5V (s:=s.data.toList) (by rw [q1E];exact hs20) hp h1 h2;have hw:wordsL s.data.toList=⟨[],x.1.at_,er⟩:=by
   rcases h3 with ⟨e1,rfl⟩ | ⟨e1,e2,rfl⟩
   ·exact w1 e1
   ·exact w2 e1 e2
  have hsz:=HWB.out;have hr9:=q5g (B:=0) h4 (grownBy_putObj' _ D (.deferred none)) (fun r e=>by cases e;exact ⟨Nat.zero_le _,_,hK,rfl⟩);have hb9:=q0Z h5 (.deferred none) (by omega:w.heap.size<=D) hK;have HR9:=Hi hr9;have HK:=Hi hK;have HP:Hid (PWordsP s w (.returned (.tuple #[.slice none 0 0,.int .i64 (x.1.at_:Int),.int .i64 (er:Int)])) (W.putObj D (.deferred none))):=
   Hi ⟨none,0,by rw [hw];rfl,by rw [hw];exact Lies.nil _ _,hb9,by rw [hw];exact Nat.le_refl _,V2⟩
  clear h1 h2 h3 h4 h5 hw w1 w2 hr9 hb9 hsz hK hp;exact V3i
end
end Lx
namespace Ev
open Lx Args Pa Sh Go.Proofs.YtcgibpdjfgjldaaGreatDoor.Nm WMath Fl
section
attribute [local go_sem] Oper.semAt_some
theorem backO(A:Option Addr)(L c:Nat)(w:World):Calls Tryz.prog 71 #[.slice A L c] w fun e w'=>
  e = .returned (.func (.func 104) #[] #[.pointer (some ⟨w.heap.size,0,none⟩)])/\w'=w.alloc (.cells #[.slice A L c] 91):=by
 go_enter Tryz.func71,Tryz.ntmps71;go_wp2_with fail
 go_ret;exact ⟨rfl,rfl⟩
theorem q4J(n:Nat)(hn:1<=n)(Bs:Nat)(w:World)(hB:Bs < w.heap.size)(hc:w.cell? ⟨Bs,0,none⟩=some (.slice none 0 0)) :
  SeqStopsK Fence.wide n Tryz.prog 104 #[.pointer (some ⟨Bs,0,none⟩)] (fun x:Empty=>x.elim) (fun _ _=>True) (fun ys=>ys=[]) (fun _=>False) 0 w:=fun l J Jx W hW _ _ hY h0=>by
 have hcw:W.cell? ⟨Bs,0,none⟩=some (.slice none 0 0):=(hW.cell (p:=⟨Bs,0,none⟩) hB).trans hc;clear hW hc hY;refine callsIn_of_wp Tryz.func104 rfl trivial ?_ rfl;simp only [Tryz.ntmps104,List.size_toArray,List.length_cons,List.length_nil,Nat.reduceAdd,Nat.reduceSub,Array.replicate_succ,Array.replicate_zero,List.push_toArray,List.append_toArray,List.nil_append,List.cons_append]
 gi_wp2
 gi_loopw [3] (fun vr wr=>vr = .int .i64 (-1)/\Hid (J [] wr)) (fun _ _=>0)
 case atStart=>exact ⟨rfl,Hi h0⟩
 case round=>
  obtain ⟨rfl,HJ⟩:=hrel
  gi_wp2
  go_end0
  exact ⟨⟨_,rfl⟩,.inl ⟨_,rfl,HJ.out⟩⟩
def NoI(p:Nat)(w:World):Prop:=p < w.heap.size/\w.cell? ⟨p,0,none⟩=some (.slice none 0 0)
theorem const1(w:World)(p:Nat)(h:NoI p w)(s:Bs):Calls Tryz.prog 70 #[.string ⟨s.toArray⟩,.pointer (some ⟨p,0,none⟩)] w (NumP w loN0 s):=by
 obtain ⟨hp,hc⟩:=h;obtain ⟨w3,hw3⟩:∃ u,((w.alloc (.cells #[.string ⟨s.toArray⟩] 9)).alloc (.cells #[.int .u32 0] 22)).alloc (.cells #[.bool false] 4)=u:=⟨_,rfl⟩;have hb3:Below w.heap.size w w3:=by rw [<-hw3];exact (((Below.refl _ w).alloc (Nat.le_refl _) _).alloc V3 _).alloc V4 _
 have hs3:w3.heap.size=w.heap.size+3:=by rw [<-hw3];simp
 have hX:Blk w3 (w.heap.size+1) 22 #[.int .u32 0]:=by
  have:=(Blk.new (w.alloc (.cells #[.string ⟨s.toArray⟩] 9)) 22 #[.int .u32 0]).alloc (.cells #[.bool false] 4);rw [World.size_alloc] at this;rw [<-hw3];exact this
 have hY:Blk w3 (w.heap.size+2) 4 #[.bool false]:=by
  have:=Blk.new ((w.alloc (.cells #[.string ⟨s.toArray⟩] 9)).alloc (.cells #[.int .u32 0] 22)) 4 #[.bool false];rw [World.size_alloc,World.size_alloc] at this;rw [<-hw3];exact this
 have hc3:w3.cell? ⟨p,0,none⟩=some (.slice none 0 0):=(hb3.cell (p:=⟨p,0,none⟩) hp).trans hc;have HB3:=Hi hb3;have HX:=Hi hX;have HY:=Hi hY;have HC3:=Hi hc3;have HW3:=Hi hw3;have HS3:=Hi hs3;have HP:=Hi hp;have HBK:=Hi (backO none 0 0 w3);have hcc:(((w.alloc (.cells #[.string ⟨s.toArray⟩] 9)).alloc (.cells #[.int .u32 0] 22)).alloc (.cells #[.bool false] 4)).cell? ⟨p,0,none⟩=some (.slice none 0 0):=by rw [hw3];exact hc3
 clear hb3 hX hY hw3 hc3 hc;refine (callsIn_wide (n:=3)).1 ?_;refine callsIn_of_wp_marks Tryz.func70 rfl trivial ?_ rfl;simp only [Tryz.ntmps70,List.size_toArray,List.length_cons,List.length_nil,Nat.reduceAdd,Nat.reduceSub,Array.replicate_succ,Array.replicate_zero,List.push_toArray,List.append_toArray,List.nil_append,List.cons_append]
 gi_wp2_with (refine ⟨trivial,?_⟩;gi_at_call 71;rw [HW3.out];refine (callsIn_wide.2 HBK.out).mono ?_;rintro e w' ⟨rfl,hw2⟩;subst hw2)
 have hBl:w.heap.size+3 < (w3.alloc (.cells #[.slice none 0 0] 91)).heap.size:=by rw [World.size_alloc,HS3.out];omega
 have hcl:(w3.alloc (.cells #[.slice none 0 0] 91)).cell? ⟨w.heap.size+3,0,none⟩=some (.slice none 0 0):=by
  have:=(Blk.new w3 91 #[.slice none 0 0]).cell 0;rw [HS3.out] at this;exact this
 refine wpIn_rangeFunc_ownG (n:=3) (α:=Empty) rfl V2 (gf:=104) (lb:=#[.pointer (some ⟨w.heap.size+3,0,none⟩)]) rfl trivial (enters_of Tryz.func104 V1 rfl)
  (q4J 2 V2 (w.heap.size+3) _ hBl hcl) (fun _ _=>trivial) (fun _ _ _ _ _ _ _ _=>trivial) (Below.refl _ _) (fun x=>x.elim)
  (fun _ W=>Below w.heap.size w W/\Blk W (w.heap.size+1) 22 #[.int .u32 0]/\Blk W (w.heap.size+2) 4 #[.bool false])
  (fun _ _ _=>False)
  (fun _ A W row ⟨h1,h2,h3⟩ hg hr=>⟨q2e h1 hg hr (by have:=HS3.out;simp;omega) h1.size,q0Q h2 hg hr,q0Q h3 hg hr⟩)
  (fun _ _ _ _ _ hs _ _=>hs)
  ⟨HB3.out.alloc HB3.out.size _,HX.out.alloc _,HY.out.alloc _⟩
  (fun x=>x.elim) ?assign ?body ?done ?stop
 case assign=>intro l x;exact x.elim
 case body=>intro l pre x W _ hlt;exact absurd hlt V3
 case done=>
  rintro D xs W hD _ ⟨h1,h2,h3⟩ hK;have f2:=h2.cell 0;have f3:=h3.cell 0;have q2:=h2.frozen 0;have q3:=h3.frozen 0;simp only [List.getElem?_toArray,List.getElem?_cons_zero,List.getElem?_cons_succ] at f2 f3;have hsz:w.heap.size+3 < D:=by have:=HS3.out;simp at hD;omega
  obtain ⟨W2,hW2⟩:∃ u,(W.setCell ⟨w.heap.size+1,0,none⟩ (.int .u32 0)).setCell ⟨w.heap.size+2,0,none⟩ (.bool false)=u:=⟨_,rfl⟩;have k2:Blk W2 (w.heap.size+1) 22 #[.int .u32 0]:=by rw [<-hW2];exact (h2.set 0 _).far (p:=⟨w.heap.size+2,0,none⟩) (by show w.heap.size+1≠w.heap.size+2;omega) _
  have k3:Blk W2 (w.heap.size+2) 4 #[.bool false]:=by rw [<-hW2];exact (h3.far (p:=⟨w.heap.size+1,0,none⟩) (by show w.heap.size+2≠w.heap.size+1;omega) _).set 0 _
  have kb:Below w.heap.size w W2:=by rw [<-hW2];exact (h1.setCell (p:=⟨w.heap.size+1,0,none⟩) (by show w.heap.size<=w.heap.size+1;omega) _).setCell (p:=⟨w.heap.size+2,0,none⟩) V0T _
  have kD:W2.heap[D]?=some (.deferred (some [])):=by rw [<-hW2];exact ((KeepsOthers.setCell W ⟨w.heap.size+1,0,none⟩ _).trans (KeepsOthers.setCell _ ⟨w.heap.size+2,0,none⟩ _)).same D _ hK rfl
  have hgr:=grownBy_putObj' W2 D (.deferred none);have hrr:∀ r,some D=some r->w.heap.size<=r/\∃ o:Obj,W2.heap[r]?=some o/\o.isCells=false:=fun r e=>by cases e;exact ⟨V0,_,kD,rfl⟩
  have j2:=q0Q k2 hgr hrr;have j3:=q0Q k3 hgr hrr;have jb:=q2e kb hgr hrr (Nat.le_refl _) kb.size;have J2:=Hi j2;have J3:=Hi j3;have JB:=Hi jb;have KD:=Hi kD;have HW2:=Hi hW2;clear h1 h2 h3 k2 k3 kb kD hgr hrr j2 j3 jb hW2 hsz hD hK
  gi_wp2
  rw [HW2.out];refine ⟨V3,.inl ⟨_,_,rfl,run_takeDeferred KD.out,?_⟩⟩;exact ⟨_,q18 rfl _ _ _ _ _ _ rfl rfl (q03 (run_isAgg_plain Tryz.underlying22 rfl _) (J2.out.cell 0)) (q03 (run_isAgg_plain Tryz.underlying4 rfl _) (J3.out.cell 0)),rfl,JB.out⟩
 case stop=>intro D c pre W _ _ h _;exact h.elim
theorem noI(p:Nat):NuI (true,p) loN0 (NoI p) where
 mono:=fun h hb=>⟨Nat.lt_of_lt_of_le h.1 hb.size,(hb.cell (p:=⟨p,0,none⟩) h.1).trans h.2⟩
 run:=fun w h s hs=>const1 w p h s
def ConP(w:World)(z:Tz)(e:Ending)(w':World):Prop:=e = .returned (.tuple #[uV ((conB z).getD 0),.bool (conB z).isSome])/\Below w.heap.size w w'
theorem constN{w0:World}(z:Tz)(w:World)(k a:Int)(s:Bs)(n:Nat)(A:Option Addr)(la cA:Nat)(B:Option Addr)(lb cB:Nat)(hb:Below w0.heap.size w0 w)(hT:TrV w0 z k a s n A la cA B lb cB) :
  Calls Tryz.prog 34 #[nzA k a s n A la cA B lb cB,.slice none 0 0] w (ConP w z):=by
 obtain ⟨w1,hw1,hb1,hX1,hs1⟩:=q05 w (nB k a s n A la cA B lb cB);obtain ⟨w2,hw2,hb2,-⟩:=alK w1 #[.slice none 0 0] 91;have hX2:=hX1.below hb2 hX1.lt;have hN2:NoI (w.heap.size+1) w2:=by
  have h1:w2.heap.size=w.heap.size+2:=V0o;refine ⟨V0,?_⟩;have:=(Blk.new w1 91 #[.slice none 0 0]).cell 0;rw [hs1,hw2] at this;exact this
 have hb12:=hb1.trans (hb2.mono hb1.size);have HC:=Hi (strayQ (w0:=w0) (noI (w.heap.size+1)) (SizeOf.sizeOf z+1) z (Nat.lt_succ_self _) w2 k a s n A la cA B lb cB (hb.trans (hb12.mono hb.size)) hN2 hT);have HWO:=Hi fun v (hv:Below w2.heap.size w2 v) (hst:strB loN0 z=none)=>worthQ (w0:=w0) (noI (w.heap.size+1)) (SizeOf.sizeOf z+1) z (Nat.lt_succ_self _) v k a s n A la cA B lb cB ((hb.trans (hb12.mono hb.size)).trans (hv.mono (hb.trans (hb12.mono hb.size)).size)) ((noI (w.heap.size+1)).mono hN2 hv) hT hst
 have HB2:=Hi hb12;have HW1:=Hi hw1;have HW2:=Hi hw2;have HX2:=Hi hX2;have hmf:∀ (fn:Fn) (first cap:Array Value) (w:World),(Instr.makeFunc fn first cap).run Tryz.prog w = .ok (.func fn first cap) w:=fun _ _ _ _=>rfl
 obtain ⟨⟨e0,e1,e2,e3,e4,e5⟩,z0,z1,z2,z3,z4,z5⟩:=Blk.c6 hX2;have hgl:=hX2.lt;obtain ⟨res,hres⟩:∃ res,strB loN0 z=res:=⟨_,rfl⟩;have HRES:=Hi hres;rw [hres] at HC;unfold ConP;have hcon:conB z=if res.isNone=true then some (worB loN0 z) else none:=by unfold conB;rw [hres]
 rw [hcon];clear hb hT hw1 hb1 hX1 hw2 hb2 hX2 hN2 hb12 hres hcon;generalize worB loN0 z=x2 at HWO ⊢;go_enter Tryz.func34,Tryz.ntmps34;go_upto_region 1 with fail
 rw [HW1.out,HW2.out];go_wp2_with fail
 refine (show Calls Tryz.prog 72 #[nzA k a s n A la cA B lb cB,.func (.func 70) #[] #[.pointer (some ⟨w.heap.size+1,0,none⟩)]] w2 _ from HC.out).mono ?_;intro e w3 h3;clear e0 e1 e2 e3 e4 e5 z0 z1 z2 z3 z4 z5 hgl;cases res with
 | none=>
  obtain ⟨rfl,hb3⟩:=h3;obtain ⟨w4,hw4,hb4,hX4,hs4⟩:=q05 w3 #[.int .i64 0,.string ⟨#[]⟩,.int .u32 0,.int .i64 0,.slice none 0 0,.slice none 0 0];have hb24:=hb3.trans (hb4.mono hb3.size);have hX5:=HX2.out.below hb24 HX2.out.lt;have HWW:=Hi (HWO.out w4 hb24 HRES.out);obtain ⟨⟨e0,e1,e2,e3,e4,e5⟩,z0,z1,z2,z3,z4,z5⟩:=Blk.c6 hX5;have hgl:=hX5.lt;have HB4:=Hi (HB2.out.trans (hb24.mono HB2.out.size));have HW4:=Hi hw4;clear hb3 hw4 hb4 hX4 hs4 hb24 hX5;go_upto_region 3 with fail
  rw [HW4.out];go_wp2_with fail
  refine (show Calls Tryz.prog 73 #[nzA k a s n A la cA B lb cB,.func (.func 70) #[] #[.pointer (some ⟨w.heap.size+1,0,none⟩)]] w4 _ from HWW.out).mono ?_;rintro e w5 ⟨rfl,hb5⟩;have HB5:=Hi (HB4.out.trans (hb5.mono HB4.out.size));clear hb5;go_wp2_with fail
  go_ret2
  exact ⟨rfl,HB5.out⟩
 | some x=>
  obtain ⟨k2,a2,s2⟩:=x;obtain ⟨hs2,⟨n2,A2,la2,cA2,B2,lb2,cB2,rfl⟩,hb3⟩:=h3;obtain ⟨w4,hw4,hb4,hX4,hs4⟩:=q05 w3 (nB k2 a2 s2 n2 A2 la2 cA2 B2 lb2 cB2);have HB4:=Hi (HB2.out.trans ((hb3.trans (hb4.mono hb3.size)).mono HB2.out.size));have HW4:=Hi hw4;clear hb3 hw4 hb4 hX4 hs4;go_upto_region 3 with fail
  rw [HW4.out];go_wp2_with fail
  go_ret2
  exact ⟨rfl,HB4.out⟩
theorem constE{w0:World}(z:Tz)(w:World)(k a:Int)(s:Bs)(n:Nat)(A:Option Addr)(la cA:Nat)(B:Option Addr)(lb cB:Nat)(hb:Below w0.heap.size w0 w)(hT:TrV w0 z k a s n A la cA B lb cB) :
  Calls Tryz.prog 33 #[nzA k a s n A la cA B lb cB] w (ConP w z):=by
 obtain ⟨w1,hw1,hb1,hX1,hs1⟩:=q05 w (nB k a s n A la cA B lb cB);have HC:=Hi (constN z w1 k a s n A la cA B lb cB (hb.trans (hb1.mono hb.size)) hT);have HB1:=Hi hb1;have HW1:=Hi hw1;obtain ⟨⟨e0,e1,e2,e3,e4,e5⟩,z0,z1,z2,z3,z4,z5⟩:=Blk.c6 hX1;have hgl:=hX1.lt;unfold ConP at HC ⊢;clear hb hT hw1 hb1 hX1 hs1;generalize conB z=r at HC ⊢;go_enter Tryz.func33,Tryz.ntmps33;go_upto_region 1 with fail
 rw [HW1.out];go_wp2_with fail
 refine HC.out.mono ?_;rintro e w2 ⟨rfl,hb2⟩;have HB2:=Hi (HB1.out.trans (hb2.mono HB1.out.size));clear hb2;go_wp2_with fail
 go_ret2
 exact ⟨rfl,HB2.out⟩
end
end Ev
end Go.Proofs.YtcgibpdjfgjldaaGreatDoor
