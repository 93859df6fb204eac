/- DERIVED. LxWp, PaCl. By an AI agent. -/
import Derived.Test.YtdhoemlomojfaaaGreatDoorW01
import Derived.Test.YtdhoemlomojfaaaGreatDoorW38
import Derived.Test.YtdhoemlomojfaaaGreatDoorW07
import Derived.Test.YtdhoemlomojfaaaGreatDoorW35
set_option maxRecDepth 100000
set_option maxHeartbeats 8000000
set_option linter.unusedVariables false
set_option linter.unusedSimpArgs false
namespace Go.Proofs.YtdhoemlomojfaaaGreatDoor.Lx
open Go Go.ChangeShapes Go.WideShapes Go.ChangeAt Go.RowKit Go.Shelf Args
section
attribute [local go_sem] Oper.semAt_some
theorem infoTk:(Tryz.prog.info? 134).map (fun i=>(i.zero,i.size,i.bytes))=some (some (.agg #[.int .i64 0,.string ⟨#[]⟩,.int .i64 0]),3,32):=by kernel_rfl
def PWordsP(s:ByteArray)(w:World)(e:Ending)(w':World):Prop:=
 ∃ A c,e = .returned (.tuple #[.slice A (wordsL s.data.toList).l.length c,.int .i64 ((wordsL s.data.toList).at_:Int),.int .i64 ((wordsL s.data.toList).er:Int)])∧Lies w' A ((wordsL s.data.toList).l.flatMap tkC)∧Below w.heap.size w w'∧(wordsL s.data.toList).l.length≤c∧c≤maxLen
theorem isAggL(w:World):(isAgg 124).run Tryz.prog w = .ok false w:=run_isAgg_plain Tryz.underlying124 rfl w
theorem isAggI(w:World):(isAgg 3).run Tryz.prog w = .ok false w:=run_isAgg_plain Tryz.underlying3 rfl w
def R3(n:Nat)(a b c:Value)(W:World):Prop:=Blk W n 124 #[a]∧Blk W (n+1) 3 #[b]∧Blk W (n+2) 47 #[c]
theorem r3_res{n:Nat}{a b c:Value}{W:World}(h:R3 n a b c W)(tmps:Array Value)(h2:tmps.getD 2 undef = .pointer (some ⟨n,0,none⟩))(h3:tmps.getD 3 undef = .pointer (some ⟨n+1,0,none⟩))(h4:tmps.getD 4 undef = .pointer (some ⟨n+2,0,none⟩)) :
  (results Tryz.f67 tmps).run Tryz.prog W = .ok (.tuple #[a,b,c]) W:=
 results_ccc rfl tmps W n (n+1) (n+2) a b c h2 h3 h4 (loadVar_plain (isAggL W) (h.1.cell 0)) (loadVar_plain (isAggI W) (h.2.1.cell 0)) (loadVar_plain (isAggE W) (h.2.2.cell 0))
def put3(w:World)(n:Nat)(a b c:Value):World:=((w.setCell ⟨n,0,none⟩ a).setCell ⟨n+1,0,none⟩ b).setCell ⟨n+2,0,none⟩ c
theorem r3_put{n:Nat}{a b c:Value}{W:World}(h:R3 n a b c W)(a' b' c':Value):R3 n a' b' c' (put3 W n a' b' c'):=by
 obtain ⟨h1,h2,h3⟩:=h;refine ⟨?_,?_,?_⟩
 ·exact ((h1.set 0 a').far (p:=⟨n+1,0,none⟩) (by show n≠n+1;omega) b').far (p:=⟨n+2,0,none⟩) (by show n≠n+2;omega) c'
 ·exact ((h2.far (p:=⟨n,0,none⟩) (by show n+1≠n;omega) a').set 0 b').far (p:=⟨n+2,0,none⟩) (by show n+1≠n+2;omega) c'
 ·exact ((h3.far (p:=⟨n,0,none⟩) (by show n+2≠n;omega) a').far (p:=⟨n+1,0,none⟩) (by show n+2≠n+1;omega) b').set 0 c'
theorem put3_below{w0 w:World}{B n:Nat}(h:Below B w0 w)(hB:B≤n)(a b c:Value):Below B w0 (put3 w n a b c):=
 ((h.setCell (p:=⟨n,0,none⟩) hB a).setCell (p:=⟨n+1,0,none⟩) (by show B≤n+1;omega) b).setCell (p:=⟨n+2,0,none⟩) (by show B≤n+2;omega) c
theorem put3_keeps(W:World)(n:Nat)(a b c:Value):KeepsOthers W (put3 W n a b c):=
 ((KeepsOthers.setCell W ⟨n,0,none⟩ a).trans (KeepsOthers.setCell _ ⟨n+1,0,none⟩ b)).trans (KeepsOthers.setCell _ ⟨n+2,0,none⟩ c)
theorem r3_alloc{n:Nat}{a b c:Value}{W:World}(h:R3 n a b c W)(o:Obj):R3 n a b c (W.alloc o):=⟨h.1.alloc o,h.2.1.alloc o,h.2.2.alloc o⟩
theorem r3_grown{n:Nat}{a b c:Value}{A W:World}{row:Option Nat}(h:R3 n a b c A)(hg:A.grownBy W row)(hr:∀ r,row=some r→n+2 < r):R3 n a b c W:=
 ⟨(hg.block _ h.1.lt (fun e=>by have:=hr _ e.symm;omega)).trans h.1,(hg.block _ h.2.1.lt (fun e=>by have:=hr _ e.symm;omega)).trans h.2.1,(hg.block _ h.2.2.lt (fun e=>by have:=hr _ e.symm;omega)).trans h.2.2⟩
def tks(pre:List (Tk×Nat)):List Tk:=pre.map (·.1)
def WdI(w:World)(pre:List (Tk×Nat))(W:World):Prop:=(∀ x∈pre,x.2 = 0)∧pre.length≤4000∧R3 w.heap.size (.slice none 0 0) (.int .i64 0) (.int .i64 0) W ∧
 (∃ g c,Blk W (w.heap.size+4) 124 #[.slice (some ⟨g,0,none⟩) pre.length c]∧W.ownsRow (w.heap.size+3) 134 3 (.slice (some ⟨g,0,none⟩) pre.length c) pre.length ((tks pre).flatMap tkC))∧Below w.heap.size w W
def WdX(w:World)(c:Code)(pre:List (Tk×Nat))(W:World):Prop:=c = .ret∧∃ q x,∃ er:Nat,pre=q ++ [x]∧(∀ y∈q,y.2 = 0)∧q.length≤4000∧((x.2≠0∧er=x.2)∨(x.2 = 0∧q.length = 4000∧er = 150)) ∧
 R3 w.heap.size (.slice none 0 0) (.int .i64 (x.1.at_:Int)) (.int .i64 (er:Int)) W∧Below w.heap.size w W
def WdA(s:ByteArray)(w:World)(x:Tk×Nat)(a':Act)(W:World):Prop:=∃ Bt,w.heap.size+4 < Bt∧Blk W Bt 134 #[.int .i64 (x.1.k:Int),.string ⟨x.1.s.toArray⟩,.int .i64 (x.1.at_:Int)] ∧
 a'={ tmps:=#[.string s,undef,.pointer (some ⟨w.heap.size,0,none⟩),.pointer (some ⟨w.heap.size+1,0,none⟩),.pointer (some ⟨w.heap.size+2,0,none⟩),.pointer (some ⟨w.heap.size+4,0,none⟩),.pointer (some ⟨Bt,0,none⟩),.int .i64 (x.2:Int),.string s,.int .i64 (s.size:Int),.bool false,.slice (some ⟨w.heap.size+3,0,none⟩) 0 0,.string s,.func (.func 103) #[] #[.pointer (some ⟨w.heap.size+5,0,none⟩)],.agg #[.int .i64 (x.1.k:Int),.string ⟨x.1.s.toArray⟩,.int .i64 (x.1.at_:Int)],.int .i64 (x.2:Int),undef,undef,undef,undef,undef,undef,undef,undef,undef,undef,undef,undef,undef,undef,undef],defers:=[] }
theorem own_far{B g:Nat}{t:TypeId}{cs:Array Value}{A W:World}{row:Option Nat}(h:Blk A g t cs)(hg:A.grownBy W row)(hr:∀ r,row=some r→B≤r∧∃ o:Obj,A.heap[r]?=some o∧o.isCells=false):Blk W g t cs:=
 (hg.block g h.lt (fun e=>by obtain ⟨_,o,ho,hc⟩:=hr g e.symm;rw [show A.heap[g]?=_ from h] at ho;cases ho;cases hc)).trans h
theorem own_r3{B n:Nat}{a b c:Value}{A W:World}{row:Option Nat}(h:R3 n a b c A)(hg:A.grownBy W row)(hr:∀ r,row=some r→B≤r∧∃ o:Obj,A.heap[r]?=some o∧o.isCells=false):R3 n a b c W:=
 ⟨own_far h.1 hg hr,own_far h.2.1 hg hr,own_far h.2.2 hg hr⟩
theorem own_bel{B n:Nat}{w A W:World}{row:Option Nat}(h:Below n w A)(hg:A.grownBy W row)(hr:∀ r,row=some r→B≤r∧∃ o:Obj,A.heap[r]?=some o∧o.isCells=false)(hB:n≤B)(hs:n≤A.heap.size):Below n w W:=
 h.grown hg hs fun k hk=>by have:=(hr k hk).1;omega
theorem own_row{B base size n:Nat}{e:TypeId}{v:Value}{xs:List Value}{A W:World}{row:Option Nat}(h:A.ownsRow base e size v n xs)(hg:A.grownBy W row)(hr:∀ r,row=some r→B≤r∧∃ o:Obj,A.heap[r]?=some o∧o.isCells=false):W.ownsRow base e size v n xs:=by
 refine ⟨h.1,h.2.imp id fun ⟨g,cap,cur,e1,hb,hh,r⟩=>⟨g,cap,cur,e1,hb,?_,r⟩⟩;have hl:=(Array.getElem?_eq_some_iff.1 hh).1;exact (hg.block g hl (fun e2=>by obtain ⟨_,o,ho,hc⟩:=hr g e2.symm;rw [hh] at ho;cases ho;cases hc)).trans hh
theorem wdI_own(w:World){B:Nat}(hB:w.heap.size≤B):OwnFrom B (WdI w):=fun pre A W row ⟨h1,h2,h3,⟨g,c,h4,h5⟩,h6⟩ hg hr=>
 ⟨h1,h2,own_r3 h3 hg hr,⟨g,c,own_far h4 hg hr,own_row h5 hg hr⟩,own_bel h6 hg hr hB h6.size⟩
theorem wdX_own(w:World){B:Nat}(hB:w.heap.size≤B)(c:Code):OwnFrom B (WdX w c):=fun pre A W row ⟨h0,q,x,er,h1,h2,h3,h4,h5,h6⟩ hg hr=>
 ⟨h0,q,x,er,h1,h2,h3,h4,own_r3 h5 hg hr,own_bel h6 hg hr hB h6.size⟩
theorem wdA_own(s:ByteArray)(w:World){B:Nat}(x:Tk×Nat)(a':Act):OwnFrom B (fun (_:Unit) W=>WdA s w x a' W):=fun _ A W row ⟨Bt,h1,h2,h3⟩ hg hr=>⟨Bt,h1,own_far h2 hg hr,h3⟩
theorem wdI_alloc{w:World}{pre:List (Tk×Nat)}{W:World}(h:WdI w pre W)(o:Obj):WdI w pre (W.alloc o):=by
 obtain ⟨h1,h2,h3,⟨g,c,h4,h5⟩,h6⟩:=h;exact ⟨h1,h2,r3_alloc h3 o,⟨g,c,h4.alloc o,h5.alloc o⟩,h6.alloc h6.size o⟩
def wdW(a b c:Value)(w:World):World:=((w.alloc (.cells #[a] 124)).alloc (.cells #[b] 3)).alloc (.cells #[c] 47)
theorem wdW_size(a b c:Value)(w:World):(wdW a b c w).heap.size=w.heap.size+3:=by unfold wdW;simp
theorem wdW_r3(a b c:Value)(w:World):R3 w.heap.size a b c (wdW a b c w):=by
 refine ⟨((Blk.new w _ _).alloc _).alloc _,?_,?_⟩
 ·have:=(Blk.new (w.alloc (.cells #[a] 124)) 3 #[b]).alloc (.cells #[c] 47);rw [World.size_alloc] at this;exact this
 ·have:=Blk.new ((w.alloc (.cells #[a] 124)).alloc (.cells #[b] 3)) 47 #[c];rw [World.size_alloc,World.size_alloc] at this;exact this
theorem wdW_below(a b c:Value)(w:World):Below w.heap.size w (wdW a b c w):=(((Below.refl _ w).alloc (Nat.le_refl _) _).alloc (by simp) _).alloc (by simp;omega) _
def wdB(s:ByteArray)(w:World):World:=(((wdW (.slice none 0 0) (.int .i64 0) (.int .i64 0) w).alloc (.cells #[] 134)).alloc (.cells #[.slice (some ⟨w.heap.size+3,0,none⟩) 0 0] 124)).alloc (.cells #[.string s] 9)
theorem wdB_facts(s:ByteArray)(w:World):(wdB s w).heap.size=w.heap.size+6∧WdI w [] (wdB s w)∧TkI (w.heap.size+4) (w.heap.size+5) s (wdB s w):=by
 have hs:=wdW_size (.slice none 0 0) (.int .i64 0) (.int .i64 0) w;have hr:=wdW_r3 (.slice none 0 0) (.int .i64 0) (.int .i64 0) w;have hb:=wdW_below (.slice none 0 0) (.int .i64 0) (.int .i64 0) w;unfold wdB;generalize wdW (.slice none 0 0) (.int .i64 0) (.int .i64 0) w=w1 at *;have o1:=own_empty w1 (Nat.le_refl _) 134 3;rw [hs] at o1;have b4:=(Blk.new (w1.alloc (.cells #[] 134)) 124 #[.slice (some ⟨w.heap.size+3,0,none⟩) 0 0]).alloc (.cells #[.string s] 9);rw [World.size_alloc,hs] at b4;have b5:=Blk.new ((w1.alloc (.cells #[] 134)).alloc (.cells #[.slice (some ⟨w.heap.size+3,0,none⟩) 0 0] 124)) 9 #[.string s];rw [World.size_alloc,World.size_alloc,hs] at b5;have hsz:(((w1.alloc (.cells #[] 134)).alloc (.cells #[.slice (some ⟨w.heap.size+3,0,none⟩) 0 0] 124)).alloc (.cells #[.string s] 9)).heap.size=w.heap.size+6:=by simp [hs]
 refine ⟨hsz,⟨fun x hx=>(by cases hx),Nat.zero_le _,r3_alloc (r3_alloc (r3_alloc hr _) _) _,⟨w.heap.size+3,0,b4,(o1.alloc _).alloc _⟩,((hb.alloc hb.size _).alloc (by simp;omega) _).alloc (by simp;omega) _⟩,?_⟩;have hA:∀ k,Arr (((w1.alloc (.cells #[] 134)).alloc (.cells #[.slice (some ⟨w.heap.size+3,0,none⟩) 0 0] 124)).alloc (.cells #[.string s] 9)) (w.heap.size+4) k→k=w.heap.size+3:=fun k ⟨o,n,c,h⟩=>by
  have h2:=b4.cell 0;rw [h] at h2;cases h2;rfl
 exact ⟨by rw [hsz];omega,fun k hk=>by rw [hA k hk,hsz];omega,b5,by omega,fun ha=>by have:=hA _ ha;omega⟩
theorem pwords_long(s:ByteArray)(h:20000 < s.size)(w:World):Calls Tryz.prog 67 #[.string s] w (PWordsP s w):=by
 have hw:=words_long s.data.toList (by rw [size_len];exact h);have i1:decide ((20000:Int) < (s.size:Int))=true:=by simp;omega
 have HP:Hid (∀ w',Below w.heap.size w w'→PWordsP s w (.returned (.tuple #[.slice none 0 0,.int .i64 0,.int .i64 150])) w'):=Hi fun w' hb=>⟨none,0,by rw [hw];rfl,by rw [hw];exact Lies.nil _ _,hb,by rw [hw];exact Nat.le_refl _,by decide⟩
 clear hw;generalize PWordsP s w=Q at *;go_enter Tryz.func67,Tryz.ntmps67;go_wp2_with fail
 refine bodyPost_ret (r3_res (wdW_r3 (.slice none 0 0) (.int .i64 0) (.int .i64 150) w) _ rfl rfl rfl) rfl ?_;exact HP.out _ (wdW_below _ _ _ w)
theorem own_cap{W:World}{base size n g c:Nat}{e:TypeId}{xs:List Value}(h:W.ownsRow base e size (.slice (some ⟨g,0,none⟩) n c) n xs):n≤c∧c≤maxLen:=by
 rcases h.2 with ⟨h,_⟩ | ⟨g',cap,cur,h,_,_,h1,h2,_⟩
 ·cases h
 ·cases h;exact ⟨h1,h2⟩
theorem row_ne{W:World}{base n lb:Nat}{g c:Nat}{xs:List Value}{u:Value}(h:W.ownsRow base 134 3 (.slice (some ⟨g,0,none⟩) n c) n xs)(hb:Blk W lb 124 #[u]):g≠lb∧base≤g∧g < W.heap.size:=by
 rcases h.2 with ⟨h0,_⟩ | ⟨g',cap,cur,e1,hg,hh,_⟩
 ·cases h0
 ·cases e1;refine ⟨fun e=>?_,hg,(Array.getElem?_eq_some_iff.1 hh).1⟩;subst e;rw [show W.heap[g]?=_ from hb] at hh;cases hh
theorem tks_snoc(pre:List (Tk×Nat))(x:Tk×Nat):(tks (pre ++ [x])).flatMap tkC=(tks pre).flatMap tkC ++ tkC x.1:=by simp [tks]
theorem app_round{w W w8:World}{pre:List (Tk×Nat)}{t:Tk}{g c g' c':Nat}{o:Obj}(h1:∀ x∈pre,x.2 = 0)(hlen:pre.length < 4000)
  (h3:R3 w.heap.size (.slice none 0 0) (.int .i64 0) (.int .i64 0) W) (h4:Blk W (w.heap.size+4) 124 #[.slice (some ⟨g,0,none⟩) pre.length c])
  (h5:W.ownsRow (w.heap.size+3) 134 3 (.slice (some ⟨g,0,none⟩) pre.length c) pre.length ((tks pre).flatMap tkC)) (h6:Below w.heap.size w W)
  (k2:w8.ownsRow (w.heap.size+3) 134 3 (.slice (some ⟨g',0,none⟩) (pre.length+1) c') (pre.length+1) ((tks pre).flatMap tkC ++ tkC t)) (k3:(W.alloc o).grownBy w8 (some g)) (k4:some g'=some g∨g'=(W.alloc o).heap.size) :
  KeepsOthers W (w8.setCell ⟨w.heap.size+4,0,none⟩ (.slice (some ⟨g',0,none⟩) (pre.length+1) c'))∧KA (w.heap.size+4) W (w8.setCell ⟨w.heap.size+4,0,none⟩ (.slice (some ⟨g',0,none⟩) (pre.length+1) c')) ∧
   WdI w (pre ++ [(t,0)]) (w8.setCell ⟨w.heap.size+4,0,none⟩ (.slice (some ⟨g',0,none⟩) (pre.length+1) c')):=by
 obtain ⟨n1,n2,n3⟩:=row_ne h5 h4;have hl4:=h4.lt;have hgr:=grownBy_setCell' w8 (w.heap.size+4) (.slice (some ⟨g',0,none⟩) (pre.length+1) c');have b8:Blk w8 (w.heap.size+4) 124 #[.slice (some ⟨g,0,none⟩) pre.length c]:=(k3.block _ (by simp;omega) (fun e=>n1 (by cases e;rfl))).trans (h4.alloc o);obtain ⟨m1,m2,m3⟩:=row_ne k2 b8;have b9:=b8.set 0 (.slice (some ⟨g',0,none⟩) (pre.length+1) c');have hsz8:W.heap.size+1≤w8.heap.size:=by have:=k3.size;simpa using this
 have hsz9:=hgr.size;have hA9:∀ k,Arr (w8.setCell ⟨w.heap.size+4,0,none⟩ (.slice (some ⟨g',0,none⟩) (pre.length+1) c')) (w.heap.size+4) k→k=g':=fun k ⟨o,n,c2,h⟩=>by
  have h2:=b9.cell 0;rw [h] at h2;cases h2;rfl
 have hAW:Arr W (w.heap.size+4) g:=⟨0,pre.length,c,h4.cell 0⟩;have hkeep:∀ (k:Nat) (o2:Obj),k≠w.heap.size+4→k≠g→W.heap[k]?=some o2→(w8.setCell ⟨w.heap.size+4,0,none⟩ (.slice (some ⟨g',0,none⟩) (pre.length+1) c')).heap[k]?=some o2:=fun k o2 e1 e2 hk=>by
  have hlt:=(Array.getElem?_eq_some_iff.1 hk).1;rw [hgr.block k (by omega) (fun e=>e1 (by cases e;rfl)),k3.block k (by simp;omega) (fun e=>e2 (by cases e;rfl)),Below.heap_alloc W o k hlt];exact hk
 refine ⟨⟨by omega,fun k o2 hk hc=>?_⟩,⟨by omega,fun k hk=>?_,fun _ k hk=>by rw [hA9 k hk];omega,fun k o2 e1 e2 hk _=>hkeep k o2 e1 (fun e=>e2 (e ▸ hAW)) hk⟩,?_⟩
 ·refine hkeep k o2 (fun e=>?_) (fun e=>?_) hk
  ·subst e;rw [show W.heap[w.heap.size+4]?=_ from h4] at hk;cases hk;cases hc
  ·subst e;rcases h5.2 with ⟨h0,_⟩ | ⟨g2,cap,cur,e1,_,hh,_⟩
   ·cases h0
   ·cases e1;rw [hh] at hk;cases hk;cases hc
 ·rw [hA9 k hk];rcases k4 with h | h
  ·cases h;exact .inl hAW
  ·rw [h];exact .inr (by simp)
 ·refine ⟨fun x hx=>?_,by simp;omega,?_,⟨g',c',by simpa using b9,?_⟩,?_⟩
  ·rcases List.mem_append.1 hx with hx | hx
   ·exact h1 x hx
   ·rw [List.mem_singleton.1 hx]
  ·exact r3_grown (r3_grown (r3_alloc h3 o) k3 (fun r e=>by cases e;omega)) hgr (fun r e=>by cases e;omega)
  ·rw [tks_snoc,List.length_append];exact k2.kept hgr (.inr (by simp only [Value.ownBlock];exact fun e=>m1 (by cases e;rfl)))
  ·exact ((h6.alloc h6.size o).grown k3 (by simp;have:=h6.size;omega) (fun k e=>by cases e;omega)).grown hgr (by omega) (fun k e=>by cases e;omega)
theorem row_put3{W:World}{base n m g c:Nat}{xs:List Value}(h:W.ownsRow base 134 3 (.slice (some ⟨g,0,none⟩) m c) m xs)(hb:n+2 < base)(u v z:Value):(put3 W n u v z).ownsRow base 134 3 (.slice (some ⟨g,0,none⟩) m c) m xs:=by
 have hg:base≤g:=by
  rcases h.2 with ⟨h0,_⟩ | ⟨g',cap,cur,e1,hg,_⟩
  ·cases h0
  ·cases e1;exact hg
 refine ((h.kept (grownBy_setCell' W n u) (.inr ?_)).kept (grownBy_setCell' _ (n+1) v) (.inr ?_)).kept (grownBy_setCell' _ (n+2) z) (.inr ?_) <;>
  (simp only [Value.ownBlock];intro e;cases e;omega)
theorem pwords(s:ByteArray)(w:World):Calls Tryz.prog 67 #[.string s] w (PWordsP s w):=by
 by_cases h20:20000 < s.size
 ·exact pwords_long s h20 w
 have i1:decide ((20000:Int) < (s.size:Int))=false:=by simp;omega
 obtain ⟨i0,hi,hz0,hz1,hz2⟩:=info_parts infoTk;have HIF:=Hi hi;have HZ0:=Hi hz0;have HZ1:=Hi hz1;have HZ2:=Hi hz2;have HTK:=Hi (ptokens s);have hs20:s.size≤20000:=by omega
 obtain ⟨hwB,hI0,hT0⟩:=wdB_facts s w;have HWB:=Hi hwB;have HI0:=Hi hI0;have HT0:=Hi hT0;clear hi hz0 hz1 hz2 h20 hwB hI0 hT0;refine (callsIn_wide (n:=3)).1 ?_;refine callsIn_of_wp_marks Tryz.func67 rfl trivial ?_ rfl;simp only [Tryz.ntmps67,List.size_toArray,List.length_cons,List.length_nil,Nat.reduceAdd,Nat.reduceSub,Array.replicate_succ,Array.replicate_zero,List.push_toArray,List.append_toArray,List.nil_append,List.cons_append]
 gi_wp2_with (refine ⟨trivial,?_⟩;gi_at_call 83;refine (callsIn_wide.2 (HTK.out _)).mono ?_;rintro e w' ⟨rfl,hw2⟩;rw [hw2];clear hw2)
 simp only [Nat.add_assoc,Nat.reduceAdd];refine wpIn_rangeFunc_ownH (w:=wdB s w) rfl (by decide) (gf:=103) (lb:=#[.pointer (some ⟨w.heap.size+5,0,none⟩)]) rfl trivial (enters_of Tryz.func103 (by kernel_rfl) rfl)
  (tokens_stops 2 (by decide) (w.heap.size+4) (w.heap.size+5) s hs20 (wdB s w) HT0.out) ka_t (ka_b HT0.out.lt) (Below.refl _ _) (fun _=>rfl)
  (WdI w) (WdX w) (wdI_own w (by rw [HWB.out];omega)) (wdX_own w (by rw [HWB.out];omega)) HI0.out (WdA s w) (wdA_own s w) ?assign ?body ?done ?stop
 case assign=>
  intro l pre x W K hi hK;have hl4:w.heap.size+4 < W.heap.size:=by obtain ⟨_,_,_,⟨g,c,h4,_⟩,_⟩:=hi;exact h4.lt
  simp only [encT]
  gi_wp2
  exact hK _ _ ((KeepsOthers.alloc _ _).from _) (ka_alloc hl4 _) (wdI_alloc hi _) ⟨W.heap.size,hl4,Blk.new _ _ _,rfl⟩
 case body=>
  rintro l pre ⟨⟨tk,ts,ta⟩,te⟩ a' W hl ⟨r,hr⟩ hI ⟨Bt,hBt,bt,rfl⟩ hlt;obtain ⟨h1,h2,h3,⟨g,c,h4,h5⟩,h6⟩:=hI;have hmx:Tryz.prog.follows .mixedOrders=true:=by kernel_rfl
  have b0:=bt.cell 0;have b1:=bt.cell 1;have b2:=bt.cell 2;have l0:=h4.cell 0;have r0:=h3.1.cell 0;have r1:=h3.2.1.cell 0;have r2:=h3.2.2.cell 0;have f0:=h3.1.frozen 0;have f1:=h3.2.1.frozen 0;have f2:=h3.2.2.frozen 0;have f4:=h4.frozen 0;simp only [List.getElem?_toArray,List.getElem?_cons_zero,List.getElem?_cons_succ] at b0 b1 b2 l0 r0 r1 r2;have hws:=h6.size;dsimp only at b0 b1 b2 ⊢;have HR3:=Hi h3;have HB6:=Hi h6;have H1:=Hi h1;by_cases hte:te≠0
  ·have i2:((te:Int) != 0)=true:=by simp;omega
   have HX:Hid (WdX w .ret (pre ++ [(⟨tk,ts,ta⟩,te)]) (put3 W.drew w.heap.size (.slice none 0 0) (.int .i64 (ta:Int)) (.int .i64 (te:Int)))):=
    Hi ⟨rfl,pre,_,te,rfl,h1,h2,.inl ⟨hte,rfl⟩,r3_put (W:=W.drew) h3 _ _ _,put3_below (w:=W.drew) ⟨h6.os,h6.tape,h6.output,h6.size,h6.block⟩ (Nat.le_refl _) _ _ _⟩
   clear h1 h3 h4 h5 h6 hte bt;have hS0:W.drew.cell? ⟨Bt,2,none⟩=some (.int .i64 (ta:Int)):=b2
   gi_wp2
   refine Rd.region_in (S:=fun w'=>w'.cell? ⟨Bt,2,none⟩=some (.int .i64 (ta:Int))) hmx (by kernel_rfl) (fun ⟨_,_,h⟩=>h) hS0 (fun hH=>?_);refine wpAnyH_take (i:=0) (v:=?_) rfl (by kernel_rfl) (by kernel_rfl) (by kernel_rfl) (fun _ _ _ h=>h) (Or.inl ⟨by rfl,?_⟩) (by assumption) ?_;rotate_left
   ·(intro w hSw;(try dsimp only at hSw);go_simp;try with_reducible rfl)
   try simp only [Act.put,List.getElem_toArray,List.getElem_cons_succ,List.getElem_cons_zero,List.setIfInBounds_toArray,List.set_cons_zero,List.set_cons_succ]
   refine wpAnyH_take (i:=1) (v:=?_) rfl (by kernel_rfl) (by kernel_rfl) (by kernel_rfl) (fun _ _ _ h=>h) (Or.inl ⟨by rfl,?_⟩) (by assumption) ?_;rotate_left
   ·(intro w hSw;(try dsimp only at hSw);go_simp;try with_reducible rfl)
   try simp only [Act.put,List.getElem_toArray,List.getElem_cons_succ,List.getElem_cons_zero,List.setIfInBounds_toArray,List.set_cons_zero,List.set_cons_succ]
   refine wpAnyH_take (i:=2) (v:=?_) rfl (by kernel_rfl) (by kernel_rfl) (by kernel_rfl) (fun _ _ _ h=>h) (Or.inl ⟨by rfl,?_⟩) (by assumption) ?_;rotate_left
   ·(intro w hSw;(try dsimp only at hSw);go_simp;try with_reducible rfl)
   try simp only [Act.put,List.getElem_toArray,List.getElem_cons_succ,List.getElem_cons_zero,List.setIfInBounds_toArray,List.set_cons_zero,List.set_cons_succ]
   refine wpAnyH_ready (rs:=[3]) (by kernel_rfl) (by simp) (AllReadyH.cons rfl (fun K hK=>?_) AllReadyH.nil);go_simp;refine hK.out _ _ ((World.cell?_setCell_other _ _ _ _ (by intro e;injection e;omega)).trans hH) (fun hN=>?_);clear hK K hH;have hH:=hN;clear hN
   try simp only [Act.put,List.getElem_toArray,List.getElem_cons_succ,List.getElem_cons_zero,List.setIfInBounds_toArray,List.set_cons_zero,List.set_cons_succ]
   refine wpAnyH_ready (rs:=[4]) (by kernel_rfl) (by simp) (AllReadyH.cons rfl (fun K hK=>?_) AllReadyH.nil);go_simp;refine hK.out _ _ ((World.cell?_setCell_other _ _ _ _ (by intro e;injection e;omega)).trans hH) (fun hN=>?_);clear hK K hH;have hH:=hN;clear hN
   try simp only [Act.put,List.getElem_toArray,List.getElem_cons_succ,List.getElem_cons_zero,List.setIfInBounds_toArray,List.set_cons_zero,List.set_cons_succ]
   refine wpAnyH_ready (rs:=[5]) (by kernel_rfl) (by simp) (AllReadyH.cons rfl (fun K hK=>?_) AllReadyH.nil);go_simp;refine hK.out _ _ ((World.cell?_setCell_other _ _ _ _ (by intro e;injection e;omega)).trans hH) (fun hN=>?_);clear hK K hH;have hH:=hN;clear hN
   try simp only [Act.put,List.getElem_toArray,List.getElem_cons_succ,List.getElem_cons_zero,List.setIfInBounds_toArray,List.set_cons_zero,List.set_cons_succ]
   refine wpAnyH_done (by kernel_rfl) ?_ _;dsimp only [Exit.then]
   gi_wp2
   exact ⟨((KeepsOthers.drew W).trans (put3_keeps W.drew _ _ _ _)).from _,HX.out⟩
  ·obtain rfl:te = 0:=by omega
   clear hte;by_cases h40:pre.length = 4000
   ·have i4:((pre.length:Int)==4000)=true:=by simp;omega
    have i5:decide ((pre.length:Int) = 4000)=true:=by simp;omega
    have HX:Hid (WdX w .ret (pre ++ [(⟨tk,ts,ta⟩,0)]) (put3 W.drew w.heap.size (.slice none 0 0) (.int .i64 (ta:Int)) (.int .i64 150))):=
     Hi ⟨rfl,pre,_,150,rfl,h1,h2,.inr ⟨rfl,h40,rfl⟩,r3_put (W:=W.drew) h3 _ _ _,put3_below (w:=W.drew) ⟨h6.os,h6.tape,h6.output,h6.size,h6.block⟩ (Nat.le_refl _) _ _ _⟩
    clear h1 h3 h4 h5 h6 bt h40;have hS0:W.drew.cell? ⟨Bt,2,none⟩=some (.int .i64 (ta:Int)):=b2
    gi_wp2
    refine Rd.region_in (S:=fun w'=>w'.cell? ⟨Bt,2,none⟩=some (.int .i64 (ta:Int))) hmx (by kernel_rfl) (fun ⟨_,_,h⟩=>h) hS0 (fun hH=>?_);refine wpAnyH_take (i:=0) (v:=?_) rfl (by kernel_rfl) (by kernel_rfl) (by kernel_rfl) (fun _ _ _ h=>h) (Or.inl ⟨by rfl,?_⟩) (by assumption) ?_;rotate_left
    ·(intro w hSw;(try dsimp only at hSw);go_simp;try with_reducible rfl)
    try simp only [Act.put,List.getElem_toArray,List.getElem_cons_succ,List.getElem_cons_zero,List.setIfInBounds_toArray,List.set_cons_zero,List.set_cons_succ]
    refine wpAnyH_take (i:=1) (v:=?_) rfl (by kernel_rfl) (by kernel_rfl) (by kernel_rfl) (fun _ _ _ h=>h) (Or.inl ⟨by rfl,?_⟩) (by assumption) ?_;rotate_left
    ·(intro w hSw;(try dsimp only at hSw);go_simp;try with_reducible rfl)
    try simp only [Act.put,List.getElem_toArray,List.getElem_cons_succ,List.getElem_cons_zero,List.setIfInBounds_toArray,List.set_cons_zero,List.set_cons_succ]
    refine wpAnyH_ready (rs:=[2]) (by kernel_rfl) (by simp) (AllReadyH.cons rfl (fun K hK=>?_) AllReadyH.nil);go_simp;refine hK.out _ _ ((World.cell?_setCell_other _ _ _ _ (by intro e;injection e;omega)).trans hH) (fun hN=>?_);clear hK K hH;have hH:=hN;clear hN
    try simp only [Act.put,List.getElem_toArray,List.getElem_cons_succ,List.getElem_cons_zero,List.setIfInBounds_toArray,List.set_cons_zero,List.set_cons_succ]
    refine wpAnyH_ready (rs:=[3]) (by kernel_rfl) (by simp) (AllReadyH.cons rfl (fun K hK=>?_) AllReadyH.nil);go_simp;refine hK.out _ _ ((World.cell?_setCell_other _ _ _ _ (by intro e;injection e;omega)).trans hH) (fun hN=>?_);clear hK K hH;have hH:=hN;clear hN
    try simp only [Act.put,List.getElem_toArray,List.getElem_cons_succ,List.getElem_cons_zero,List.setIfInBounds_toArray,List.set_cons_zero,List.set_cons_succ]
    refine wpAnyH_ready (rs:=[4]) (by kernel_rfl) (by simp) (AllReadyH.cons rfl (fun K hK=>?_) AllReadyH.nil);go_simp;refine hK.out _ _ ((World.cell?_setCell_other _ _ _ _ (by intro e;injection e;omega)).trans hH) (fun hN=>?_);clear hK K hH;have hH:=hN;clear hN
    try simp only [Act.put,List.getElem_toArray,List.getElem_cons_succ,List.getElem_cons_zero,List.setIfInBounds_toArray,List.set_cons_zero,List.set_cons_succ]
    refine wpAnyH_done (by kernel_rfl) ?_ _;dsimp only [Exit.then]
    gi_wp2
    exact ⟨((KeepsOthers.drew W).trans (put3_keeps W.drew _ _ _ _)).from _,HX.out⟩
   ·have i4:((pre.length:Int)==4000)=false:=by simp;omega
    have i5:decide ((pre.length:Int) = 4000)=false:=by simp;omega
    have HNW:=Hi (show ∀ (j:Nat) u,[Value.int .i64 (tk:Int),.string ⟨ts.toArray⟩,.int .i64 (ta:Int)][j]?=some u→(W.alloc (.cells #[.int .i64 (tk:Int),.string ⟨ts.toArray⟩,.int .i64 (ta:Int)] 134)).cell? ((⟨W.heap.size,0,none⟩:Addr).add j)=some u from fun j u hj=>by
     rw [Args.add_plain,Nat.zero_add,World.cell?_alloc_at _ _ _ _ rfl];simpa using hj)
    obtain ⟨n1,n2,n3⟩:=row_ne h5 h4;have HOA:=Hi (show (W.alloc (.cells #[.int .i64 (tk:Int),.string ⟨ts.toArray⟩,.int .i64 (ta:Int)] 134)).ownsRow (w.heap.size+3) 134 3 (.slice (some ⟨g,0,none⟩) pre.length c) pre.length ((tks pre).flatMap tkC) from World.ownsRow.alloc h5 _);have HFIN:=Hi fun g' c' w8 k2 k3 k4=>app_round (w8:=w8) (g':=g') (c':=c') (o:=.cells #[.int .i64 (tk:Int),.string ⟨ts.toArray⟩,.int .i64 (ta:Int)] 134) (t:=⟨tk,ts,ta⟩) h1 (by omega) h3 h4 h5 h6 k2 k3 k4
    have HL4:=Hi h4;have hl4:=h4.lt;clear h1 h3 h4 h5 h6 bt h40
    gi_wp2_with (gi_at_builtin;refine wpListIn_where _ rfl (.tmp 26) (.tmp 28) 124 rfl (w.heap.size+3) 134 i0 (.agg #[.int .i64 0,.string ⟨#[]⟩,.int .i64 0]) 3 32 Tryz.underlying124 HIF.out HZ0.out HZ1.out HZ2.out rfl (by decide) _ pre.length _ rfl HOA.out ⟨W.heap.size,0,none⟩ 1 1 [.int .i64 (tk:Int),.string ⟨ts.toArray⟩,.int .i64 (ta:Int)] rfl rfl HNW.out (by simp [Value.oneCell']) (by unfold maxLen;omega) (by omega) (by simp;omega) (by decide) ?_;intro g' c' w8 k2 k3 k4;have HF8:=Hi (HFIN.out g' c' w8 k2 k3 k4);have l8:w8.cell? ⟨w.heap.size+4,0,none⟩=some (.slice (some ⟨g,0,none⟩) pre.length c):=(show Blk w8 (w.heap.size+4) 124 #[.slice (some ⟨g,0,none⟩) pre.length c] from (k3.block _ (by simp;omega) (fun e=>n1 (by cases e;rfl))).trans (HL4.out.alloc _)).cell 0;have f8:w8.frozen? ⟨w.heap.size+4,0,none⟩=false:=(show Blk w8 (w.heap.size+4) 124 #[.slice (some ⟨g,0,none⟩) pre.length c] from (k3.block _ (by simp;omega) (fun e=>n1 (by cases e;rfl))).trans (HL4.out.alloc _)).frozen 0;clear k2 k3 k4)
    obtain ⟨q1,q2,q3⟩:=HF8.out;exact ⟨q1.from _,q2,q3⟩
 case done=>
  rintro D xs W hD rfl ⟨h1,h2,h3,⟨g,c,h4,h5⟩,h6⟩ hK;have hw:=words_all (s:=s.data.toList) (by rw [size_len];exact hs20) h1 h2;have hl:(itemsL s.data.toList).length=(tks (itemsL s.data.toList)).length:=by simp [tks]
  generalize (itemsL s.data.toList).length=N at *;have l0:=h4.cell 0;have r0:=h3.1.cell 0;have r1:=h3.2.1.cell 0;have r2:=h3.2.2.cell 0;have f0:=h3.1.frozen 0;have f1:=h3.2.1.frozen 0;have f2:=h3.2.2.frozen 0;simp only [List.getElem?_toArray,List.getElem?_cons_zero,List.getElem?_cons_succ] at l0 r0 r1 r2;have hk2:=(put3_keeps W w.heap.size (.slice (some ⟨g,0,none⟩) N c) (.int .i64 0) (.int .i64 0)).same D _ hK rfl;have hsz:=HWB.out;have hr9:=own_r3 (B:=0) (r3_put h3 (.slice (some ⟨g,0,none⟩) N c) (.int .i64 0) (.int .i64 0)) (grownBy_putObj' _ D (.deferred none)) (fun r e=>by cases e;exact ⟨Nat.zero_le _,_,hk2,rfl⟩);have hb9:=below_putObj (put3_below h6 (Nat.le_refl _) (.slice (some ⟨g,0,none⟩) N c) (.int .i64 0) (.int .i64 0)) (.deferred none) (by omega:w.heap.size≤D) hk2;have ho9:=own_row (B:=0) (row_put3 (n:=w.heap.size) h5 (by omega) (.slice (some ⟨g,0,none⟩) N c) (.int .i64 0) (.int .i64 0)) (grownBy_putObj' _ D (.deferred none)) (fun r e=>by cases e;exact ⟨Nat.zero_le _,_,hk2,rfl⟩);have HR9:=Hi hr9;have HK:=Hi hk2;have hcap:=own_cap ho9;have HP:Hid (PWordsP s w (.returned (.tuple #[.slice (some ⟨g,0,none⟩) N c,.int .i64 0,.int .i64 0])) ((put3 W w.heap.size (.slice (some ⟨g,0,none⟩) N c) (.int .i64 0) (.int .i64 0)).putObj D (.deferred none))):=
   Hi ⟨some ⟨g,0,none⟩,c,by rw [hw];show _=Ending.returned (.tuple #[.slice (some ⟨g,0,none⟩) (tks (itemsL s.data.toList)).length c,_,_]);rw [←hl];rfl,by rw [hw];exact lies_own ho9,hb9,by rw [hw];show (tks (itemsL s.data.toList)).length≤c;rw [←hl];exact hcap.1,hcap.2⟩
  clear h1 h2 h3 h4 h5 h6 hw hl hr9 hb9 ho9 hsz
  gi_wp2
  refine ⟨by simp,.inl ⟨_,_,rfl,run_takeDeferred HK.out,?_⟩⟩;exact ⟨_,r3_res HR9.out _ rfl rfl rfl,HP.out⟩
 case stop=>
  rintro D c pre W hD hp ⟨rfl,q,x,er,rfl,h1,h2,h3,h4,h5⟩ hK;obtain ⟨w1,w2⟩:=words_bad (s:=s.data.toList) (by rw [size_len];exact hs20) hp h1 h2;have hw:wordsL s.data.toList=⟨[],x.1.at_,er⟩:=by
   rcases h3 with ⟨e1,rfl⟩ | ⟨e1,e2,rfl⟩
   ·exact w1 e1
   ·exact w2 e1 e2
  have hsz:=HWB.out;have hr9:=own_r3 (B:=0) h4 (grownBy_putObj' _ D (.deferred none)) (fun r e=>by cases e;exact ⟨Nat.zero_le _,_,hK,rfl⟩);have hb9:=below_putObj h5 (.deferred none) (by omega:w.heap.size≤D) hK;have HR9:=Hi hr9;have HK:=Hi hK;have HP:Hid (PWordsP s w (.returned (.tuple #[.slice none 0 0,.int .i64 (x.1.at_:Int),.int .i64 (er:Int)])) (W.putObj D (.deferred none))):=
   Hi ⟨none,0,by rw [hw];rfl,by rw [hw];exact Lies.nil _ _,hb9,by rw [hw];exact Nat.le_refl _,by decide⟩
  clear h1 h2 h3 h4 h5 hw w1 w2 hr9 hb9 hsz hK hp
  gi_wp2
  refine ⟨by simp,.inl ⟨_,_,rfl,run_takeDeferred HK.out,?_⟩⟩;exact ⟨_,r3_res HR9.out _ rfl rfl rfl,HP.out⟩
end
end Go.Proofs.YtdhoemlomojfaaaGreatDoor.Lx
namespace Go.Proofs.YtdhoemlomojfaaaGreatDoor.Pa
open Go Go.ChangeShapes Go.WideShapes Go.ChangeAt Go.RowKit Lx Args
section
attribute [local go_sem] fTk0 fTk1 fTk2
theorem whole_program(w:World)(bp:Nat)(l:List Tk)(hp:PS w bp l 0)(hg:Gt l):Calls Tryz.prog 56 #[.pointer (some ⟨bp,0,none⟩)] w (OutP w bp 0 (tX :: l) (ProgR l)):=program w bp l hp hg
theorem cl_program(w:World)(bp:Nat)(l:List Tk)(hp:PS w bp l 0)(hg:Gt l) :
  Calls Tryz.prog 55 #[.pointer (some ⟨bp,0,none⟩)] w (OutP w bp 0 (tX :: l) (ProgR l)):=by
 obtain ⟨w0,hw0⟩:∃ w0,w.alloc (.cells #[.int .i64 0,.string ⟨#[]⟩,.int .u32 0,.int .i64 0,.slice none 0 0,.slice none 0 0] 62)=w0:=⟨_,rfl⟩;have hb0:Below w.heap.size w w0:=by rw [←hw0];exact (Below.refl _ _).alloc (Nat.le_refl _) _
 have hB:Blk w0 w.heap.size 62 #[.int .i64 0,.string ⟨#[]⟩,.int .u32 0,.int .i64 0,.slice none 0 0,.slice none 0 0]:=by rw [←hw0];exact Blk.new _ _ _
 have hlt:=hp.lt;have HS:=Hi (whole_program w0 bp l (hp.below hb0) hg);have HB0:=Hi hb0;have HB:=Hi hB;have HW:=Hi hw0;clear hb0 hp hw0 hB hg;go_enter Tryz.func55,Tryz.ntmps55;go_wp2_with fail
 rw [HW.out];refine HS.out.mono ?_;rintro e w1 (⟨k,a,s,n,A,la,cA,B,lb,cB,x,r,rfl,hT,hR,hP,hG,hr,hU⟩ | ⟨a,er,rfl,hR,hU⟩)
 ·have h1:Blk w1 w.heap.size 62 #[.int .i64 0,.string ⟨#[]⟩,.int .u32 0,.int .i64 0,.slice none 0 0,.slice none 0 0]:=HB.out.upd hU (by omega);obtain ⟨⟨e0,e1,e2,e3,e4,e5⟩,z0,z1,z2,z3,z4,z5⟩:=Blk.c6 h1;have H1:=Hi h1;have HT:=Hi hT;have HR:=Hi hR;have HP:=Hi hP;have HG:=Hi hG;have HU:=Hi hU;clear h1 hT hR hP hG hU;go_wp2_with fail
  exact bodyPost_ret (resNd rfl rfl (Blk.put6 H1.out _ _ _ _ _ _) rfl) rfl (out_ok hlt HB.out.lt HT.out HR.out HP.out HG.out hr ((below_UB HB0.out).trans HU.out))
 ·have HR:=Hi hR;have HU:=Hi hU;clear hR hU;go_wp2_with fail
  exact ⟨rfl,.inr ⟨a,er,rfl,HR.out,(below_UB HB0.out).trans HU.out⟩⟩
def BadR(R:List Tk→Out→Prop)(W:Wd)(a er:Nat):Prop:=(W.er≠0∧a=W.at_∧er=W.er)∨(W.er = 0∧(R W.l (.bad a er)∨∃ xs t r,R W.l (.ok xs (t :: r))∧t.k≠0∧a=t.at_∧er = 100))
def RdP(R:List Tk→Out→Prop)(s:ByteArray)(w:World)(e:Ending)(w':World):Prop:=
 (∃ k a sx n A la cA B lb cB x t r,e = .returned (.tuple #[.agg #[.int .i64 (k:Nat),.string ⟨(sx:Bs).toArray⟩,.int .u32 (n:Nat),.int .i64 (a:Nat),.slice A la cA,.slice B lb cB],.int .i64 0,.int .i64 0])∧(wordsL s.data.toList).er = 0∧R (wordsL s.data.toList).l (.ok [x] (t :: r))∧t.k = 0 ∧
  TIn (fun b=>w.heap.size≤b) w' x (ndC k a sx n A la cA B lb cB)∧Below w.heap.size w w') ∨
 (∃ a er,e = .returned (.tuple #[.agg #[.int .i64 0,.string ⟨#[]⟩,.int .u32 0,.int .i64 0,.slice none 0 0,.slice none 0 0],.int .i64 (a:Nat),.int .i64 (er:Nat)])∧BadR R (wordsL s.data.toList) a er∧Below w.heap.size w w')
theorem go_few:∀ (f:Nat) (bs:Bs) (i n:Nat),n≤4000→(goL f bs i n).l.length+n≤4000
 | 0,_,_,n,h=>by show 0+n≤4000;omega
 | f+1,[],i,n,h=>by
  show (if n = 4000 then (⟨[],i,150⟩:Wd) else ⟨[⟨0,[],i⟩],0,0⟩).l.length+n≤4000;split
  ·show 0+n≤4000;omega
  ·show 1+n≤4000;omega
 | f+1,c :: r,i,n,h=>by
  rcases ht:tokC c r with _ | ⟨k,m⟩
  ·rw [goL_none ht];show 0+n≤4000;omega
  ·rw [goL_some ht];split
   ·show 0+n≤4000;omega
   ·have:=go_few f (restL ((c :: r).drop m)) (i+m+skipL false ((c :: r).drop m)) (n+1) (by omega);unfold Wd.cons;split
    ·show (goL f _ _ _).l.length+1+n≤4000;omega
    ·omega
theorem words_few(s:Bs):(wordsL s).l.length≤4000:=by
 unfold wordsL;split
 ·exact Nat.zero_le _
 ·have:=go_few (s.length+1) (s.drop (skipL false s)) (skipL false s) 0 (Nat.zero_le _);omega
theorem words_gt{s:Bs}(h:(wordsL s).er = 0):Gt (wordsL s).l:=by
 refine ⟨words_et h,fun t ht=>⟨words_okt s t ht,?_⟩,?_⟩
 ·obtain ⟨j,hj,hjt⟩:=List.getElem_of_mem ht;have hx:(wordsL s).l[j]?=some t:=by rw [List.getElem?_eq_getElem hj,hjt]
  have h1:=(words_order s h).2 j t hx;have h2:s.length≤20000:=by
   rcases Nat.lt_or_ge 20000 s.length with h3 | h3
   ·rw [words_long _ h3] at h;exact absurd h (by show ¬ (150:Nat) = 0;decide)
   ·exact h3
  have h3:((s.drop t.at_).take t.s.length).length=t.s.length:=by rw [h1.2.1]
  rw [List.length_take,List.length_drop] at h3;omega
 ·exact words_few s
end
end Go.Proofs.YtdhoemlomojfaaaGreatDoor.Pa
