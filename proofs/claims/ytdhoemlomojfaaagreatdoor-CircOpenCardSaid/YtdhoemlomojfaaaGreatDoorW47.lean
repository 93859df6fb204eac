/- DERIVED. CiLv, RnApp. By an AI agent. -/
import Derived.Test.YtdhoemlomojfaaaGreatDoorW01
import Derived.Test.YtdhoemlomojfaaaGreatDoorW46
import Derived.Test.YtdhoemlomojfaaaGreatDoorW42
import Derived.Test.YtdhoemlomojfaaaGreatDoorW27
import Derived.Test.YtdhoemlomojfaaaGreatDoorW02
import Derived.ArgAppend
import Derived.Laws.AppendOwn
set_option maxRecDepth 100000
set_option maxHeartbeats 2000000
set_option linter.unusedVariables false
set_option linter.unusedSimpArgs false
namespace Go.Proofs.YtdhoemlomojfaaaGreatDoor.Ci
open Go Go.ChangeShapes Go.WideShapes Go.ChangeAt Go.RowKit Lx Args Pa Sh Go.Proofs.YtdhoemlomojfaaaGreatDoor.Nm WMath Word Fl
def txC:Bs:=[115,101,99,114,101,116,32,97,59,32,111,117,116,32,111,32,61,32,126,97,59]
def tkL:List Tk:=[⟨3,[115,101,99,114,101,116],0⟩,⟨1,[97],7⟩,⟨4,[59],8⟩,⟨3,[111,117,116],10⟩,⟨1,[111],14⟩,⟨4,[61],16⟩,⟨4,[126],18⟩,⟨1,[97],19⟩,⟨4,[59],20⟩,⟨0,[],21⟩]
def xC:Tr:=.mk 2 18 [126] 0 [] [.mk 1 19 [97] 0 [] []]
def zsC:List Tr:=[.mk 6 0 [] 0 [[97]] [],.mk 8 10 [111] 0 [] [xC]]
theorem wordsC:wordsL txC=⟨tkL,0,0⟩:=by rfl
theorem treeC:pF numV 60 (.stmts []) 0 tkL=some (.ok zsC [⟨0,[],21⟩]):=by rfl
theorem progC:ProgR tkL (.ok [.mk 13 0 [] 0 [] zsC] [⟨0,[],21⟩]):=⟨zsC,rfl,⟨60,fun f hf=>pF_mono numV 60 f hf _ _ _ _ treeC⟩,_,_,rfl,rfl⟩
theorem ckC:∃ c,ckB (embz (.mk 13 0 [] 0 [] zsC)) = .ok c:=⟨_,rfl⟩
theorem flC:∃ d,flB worB XM 61 2000 (embz (.mk 13 0 [] 0 [] zsC)) = .ok d:=⟨_,rfl⟩
abbrev yC:Tz:=.mk 2 18 [126] 0 [] [.mk 1 19 [97] 0 [] []]
abbrev zC:Tz:=.mk 13 0 [] 0 [] [.mk 6 0 [] 0 [[97]] [],.mk 8 10 [111] 0 [] [yC]]
abbrev gsC:List Gt:=[⟨1,0,0,0,true⟩,⟨5,0,0,0,true⟩]
abbrev osC:List TI:=[⟨⟨#[111]⟩,1⟩]
theorem fpC(w:World):Calls Tryz.prog 33 #[.string ⟨txC.toArray⟩] w fun e w'=>∃ (k a:Int) (sx:Bs) (n:Nat) (A:Option Addr) (la cA:Nat) (B:Option Addr) (lb cB:Nat) (As:Option Addr) (ls cs:Nat) (Ap:Option Addr) (lp cp:Nat) (Ao:Option Addr) (lo' co:Nat),e = .returned (.tuple #[nzA k a sx n A la cA B lb cB,.agg #[.slice As ls cs,.slice Ap lp cp,.slice Ao lo' co],.int .i64 0,.int .i64 0]) ∧
  TrV w' zC k a sx n A la cA B lb cB∧Below w.heap.size w w':=by
 refine (Ev.fpgmT ⟨txC.toArray⟩ w).mono fun e w' h=>?_
 have hw:wordsL (⟨txC.toArray⟩:ByteArray).data.toList=⟨tkL,0,0⟩:=wordsC;obtain ⟨c0,hc0⟩:=ckC;obtain ⟨d0,hd0⟩:=flC;rcases h with ⟨k,a,sx,n,A,la,cA,B,lb,cB,As,ls,cs,Ap,lp,cp,Ao,co,x,t,r,c,d,rfl,h1,h2,h3,h4,hL,hb,hT⟩ | ⟨a,er,rfl,hne,hbad,hb⟩
 ·rw [hw] at h2;obtain rfl:=prog_one h2 progC;exact ⟨k,a,sx,n,A,la,cA,B,lb,cB,As,ls,cs,Ap,lp,cp,Ao,d.ou.length,co,rfl,hT,hb⟩
 ·exfalso;rcases hbad with (⟨a',_,h⟩ | ⟨_,_,x,t,r,h,h'⟩) | ⟨_,x,t,r,c,h,h',h''⟩
  ·exact prog_ok_bad (l:=wordsL (⟨txC.toArray⟩:ByteArray).data.toList) (by rw [hw]) (by rw [hw];exact progC) h
  ·rw [hw] at h;obtain rfl:=prog_one h progC;rw [hc0] at h';cases h'
  ·rw [hw] at h;obtain rfl:=prog_one h progC;rw [hd0] at h'';cases h''
theorem catchC(p q r:Addr)(w:World) :
  CallsD Tryz.prog 41 #[.pointer (some p),.pointer (some q),.pointer (some r)] .returning w fun e u' w'=>e = .returned (.tuple #[])∧u' = .returning∧w'=w:=by
 have hnil:∀ w:World,(binOp BinOp.neq 20 .nilIface .nilIface).run Tryz.prog w = .ok (.bool false) w:=fun _=>by kernel_rfl
 refine callsD_of_wpS Tryz.func41 rfl fun c₀ cs hu=>?_
 apply wpS_seq;apply wpS_region;simp [wpOpsS,go_sem,recoverD,hu,Tryz.ntmps41,Exit.thenS];refine wpS_of_wp ?_;go_wp2_with fail
 cases c₀
 simp_all [bodyPostS,results,Tryz.results41]
theorem boxesC(w:World)(cs:Array Value):∃ w0,(((w.alloc (.cells cs 62)).alloc (.cells (crB none 0 0 0 0 none 0 0) 25)).alloc (.cells #[.int .i64 0] 3)).alloc (.cells #[.int .i64 0] 47)=w0∧Below w.heap.size w w0∧w0.heap.size=w.heap.size+4 ∧
  Blk w0 w.heap.size 62 cs∧Blk w0 (w.heap.size+1) 25 (crB none 0 0 0 0 none 0 0)∧Blk w0 (w.heap.size+2) 3 #[.int .i64 0]∧Blk w0 (w.heap.size+3) 47 #[.int .i64 0]:=by
 refine ⟨_,rfl,((((Below.refl _ _).alloc (Nat.le_refl _) _).alloc (by simp) _).alloc (by simp;omega) _).alloc (by simp;omega) _,by simp,(((Blk.new _ _ _).alloc _).alloc _).alloc _,?_,?_,?_⟩
 ·have h:=((Blk.new (w.alloc (.cells cs 62)) 25 (crB none 0 0 0 0 none 0 0)).alloc (.cells #[.int .i64 0] 3)).alloc (.cells #[.int .i64 0] 47);have e:(w.alloc (.cells cs 62)).heap.size=w.heap.size+1:=by simp
  rw [e] at h;exact h
 ·have h:=(Blk.new ((w.alloc (.cells cs 62)).alloc (.cells (crB none 0 0 0 0 none 0 0) 25)) 3 #[.int .i64 0]).alloc (.cells #[.int .i64 0] 47);have e:((w.alloc (.cells cs 62)).alloc (.cells (crB none 0 0 0 0 none 0 0) 25)).heap.size=w.heap.size+2:=by simp
  rw [e] at h;exact h
 ·have h:=Blk.new (((w.alloc (.cells cs 62)).alloc (.cells (crB none 0 0 0 0 none 0 0) 25)).alloc (.cells #[.int .i64 0] 3)) 47 #[.int .i64 0];have e:(((w.alloc (.cells cs 62)).alloc (.cells (crB none 0 0 0 0 none 0 0) 25)).alloc (.cells #[.int .i64 0] 3)).heap.size=w.heap.size+3:=by simp
  rw [e] at h;exact h
theorem szC:(Tryz.prog.info? 25).map (·.size)=some 4:=by kernel_rfl
theorem resC{g:Nat}{cs:Array Value}{a e:Value}{W:World}(h1:Blk W (g+1) 25 cs)(h2:Blk W (g+2) 3 #[a])(h3:Blk W (g+3) 47 #[e])(tmps:Array Value)(k1:tmps.getD 2 undef = .pointer (some ⟨g+1,0,none⟩))(k2:tmps.getD 3 undef = .pointer (some ⟨g+2,0,none⟩))(k3:tmps.getD 4 undef = .pointer (some ⟨g+3,0,none⟩))(hs:some 4=some cs.size:=by rfl) :
  (results Tryz.f34 tmps).run Tryz.prog W = .ok (.tuple #[.agg cs,a,e]) W:=
 results_ccc rfl tmps W (g+1) (g+2) (g+3) (.agg cs) a e k1 k2 k3 (run_loadVar_row W (g+1) 25 25 cs (0,0) _ h1 Tryz.underlying25 rfl (szC.trans hs)) (loadVar_plain (isAgI W) (h2.cell 0)) (loadVar_plain (isAgE W) (h3.cell 0))
theorem built(w:World)(k a:Int)(s:Bs)(n:Nat)(A:Option Addr)(la cA:Nat)(B:Option Addr)(lb cB:Nat)(hT:TrV w zC k a s n A la cA B lb cB) :
  Calls Tryz.prog 34 #[nzA k a s n A la cA B lb cB] w fun e w'=>∃ A' cA' B' cB',e = .returned (.tuple #[crV A' 2 cA' 1 0 B' 1 cB',.int .i64 0,.int .i64 0])∧(∀ w'' X,Upd X w' w''→(∀ k,X k→k < w.heap.size)→Cir w'' A' cA' B' cB' gsC osC)∧Below w.heap.size w w':=by
 obtain ⟨rfl,rfl,rfl,rfl,rfl,rfl,hP,-,-,-,-,-,-⟩:=hT.parts;obtain ⟨wn,hwn,hbn,hsn,hXn,hR1,hR2,hR3⟩:=boxesC w (nB 13 0 [] 0 A 2 cA B 0 cB);obtain ⟨g0,hg0⟩:∃ g0,w.heap.size=g0:=⟨_,rfl⟩;rw [hg0] at hXn hR1 hR2 hR3 hsn;obtain ⟨w1,hw1⟩:∃ u,wn.alloc (.cells (crB none 0 0 0 0 none 0 0) 25)=u:=⟨_,rfl⟩;obtain ⟨w2,hw2⟩:∃ u,w1.alloc (.map #[] 0)=u:=⟨_,rfl⟩;obtain ⟨w3,hw3⟩:∃ u,w2.alloc (.map #[] 0)=u:=⟨_,rfl⟩;obtain ⟨w4,hw4⟩:∃ u,w3.alloc (.cells #[.pointer (some ⟨g0+4,0,none⟩),.map (some (g0+5)),.map (some (g0+6)),.slice none 0 0,.int .i64 0] 82)=u:=⟨_,rfl⟩;have hs1:w1.heap.size=g0+5:=by rw [←hw1];simp [hsn]
 have hs2:w2.heap.size=g0+6:=by rw [←hw2];simp [hs1]
 have hs3:w3.heap.size=g0+7:=by rw [←hw3];simp [hs2]
 have hs4:w4.heap.size=g0+8:=by rw [←hw4];simp [hs3]
 have hb1:Below wn.heap.size wn w1:=by rw [←hw1];exact (Below.refl _ _).alloc (Nat.le_refl _) _
 have hb2:Below w1.heap.size w1 w2:=by rw [←hw2];exact (Below.refl _ _).alloc (Nat.le_refl _) _
 have hb3:Below w2.heap.size w2 w3:=by rw [←hw3];exact (Below.refl _ _).alloc (Nat.le_refl _) _
 have hb4:Below w3.heap.size w3 w4:=by rw [←hw4];exact (Below.refl _ _).alloc (Nat.le_refl _) _
 have hC1:Blk w1 (g0+4) 25 (crB none 0 0 0 0 none 0 0):=by rw [←hw1,←hsn];exact Blk.new _ _ _
 have hmk1:(Instr.makeMap 79 none).run Tryz.prog w1 = .ok (.map (some (g0+5))) w2:=by rw [←hw2,←hs1];exact run_makeMap _ _
 have hmk2:(Instr.makeMap 80 none).run Tryz.prog w2 = .ok (.map (some (g0+6))) w3:=by rw [←hw3,←hs2];exact run_makeMap _ _
 have hm1:MpM w2 (g0+5) 0 (fun _=>none):=by rw [←hw2,←hs1];exact MpG.made codM w1
 have hX4:Blk w4 (g0+7) 82 #[.pointer (some ⟨g0+4,0,none⟩),.map (some (g0+5)),.map (some (g0+6)),.slice none 0 0,.int .i64 0]:=by rw [←hs3,←hw4];exact Blk.new _ _ _
 have hb24:=hb3.trans (hb4.mono hb3.size);have hb14:=hb2.trans (hb24.mono hb2.size);have hbn4:=hb1.trans (hb14.mono hb1.size);have hb04:=hbn.trans (hbn4.mono hbn.size);have hBS:BS (g0+8) (g0+8) w4 (g0+7) (g0+4) (g0+5) 0 (.map (some (g0+6))) 0 0 0 [] (fun _=>none):=
  ⟨hX4,⟨none,0,hC1.below hb14 hC1.lt,World.ownsRow_nil _ _ _ _,fun g hg=>by cases hg⟩,hm1.upd (Upd.of_below hb24 fun _=>False) id,⟨by omega,by omega,by omega,by omega,by omega,by omega⟩,⟨Nat.le_refl _,by omega⟩,by decide⟩
 have hXN4:=hXn.below hbn4 hXn.lt;have hR14:=hR1.below hbn4 hR1.lt;have hR24:=hR2.below hbn4 hR2.lt;have hR34:=hR3.below hbn4 hR3.lt;have HLN:=Hi (learn0 hP (by simp [kOf]) (g0+7) w4 hb04);have HBS:=Hi hBS;have HXN4:=Hi hXN4;have HR1:=Hi hR14;have HR2:=Hi hR24;have HR3:=Hi hR34;have HB4:=Hi hb04;have HWN:=Hi (show (((w.alloc (.cells #[.int .i64 13,.string ⟨#[]⟩,.int .u32 0,.int .i64 0,.slice A 2 cA,.slice B 0 cB] 62)).alloc (.cells #[.slice none 0 0,.int .i64 0,.int .i64 0,.slice none 0 0] 25)).alloc (.cells #[.int .i64 0] 3)).alloc (.cells #[.int .i64 0] 47)=wn from hwn);have hx1:wn.alloc (.cells #[.slice none 0 0,.int .i64 0,.int .i64 0,.slice none 0 0] 25)=w1:=hw1;have hx4:=hw4;have HG0:=Hi hg0;have HSN:=Hi hsn;have HS3:=Hi hs3;have HP:=Hi hP;have HS1:=Hi hs1;have hmf:∀ (fn:Fn) (first cap:Array Value) (w:World),(Instr.makeFunc fn first cap).run Tryz.prog w = .ok (.func fn first cap) w:=fun _ _ _ _=>rfl
 obtain ⟨⟨e0,e1,e2,e3,e4,e5⟩,z0,z1,z2,z3,z4,z5⟩:=Pa.Blk.c6 hXN4;have hgx:=hXN4.lt;clear hT hP hwn hbn hXn hR1 hR2 hR3 hw1 hw2 hw3 hw4 hs1 hs2 hs3 hs4 hb1 hb2 hb3 hb4 hC1 hm1 hX4 hb24 hb14 hbn4 hb04 hBS hXN4 hR14 hR24 hR34
 go_enter_defers Tryz.func34,Tryz.ntmps34
 go_upto_region 1 with fail
 simp only [Nat.add_assoc,Nat.reduceAdd];rw [HWN.out];go_upto_region 3 with fail
 simp only [HS3.out];clear hx1 hx4 hmk1 hmk2 hmf;obtain ⟨I0,hI0⟩:∃ I:World→Prop,I=fun v=>Below w.heap.size w v∧BS (g0+8) (g0+8) v (g0+7) (g0+4) (g0+5) 0 (.map (some (g0+6))) 0 0 0 [] (fun _=>none)∧(Blk v (g0+1) 25 (crB none 0 0 0 0 none 0 0)∧Blk v (g0+2) 3 #[.int .i64 0]∧Blk v (g0+3) 47 #[.int .i64 0]):=⟨_,rfl⟩
 obtain ⟨I1,hI1⟩:∃ I:World→Prop,I=fun v=>Below w.heap.size w v∧(∃ hi,BS (g0+8) hi v (g0+7) (g0+4) (g0+5) 1 (.map (some (g0+6))) 0 1 0 [⟨1,0,0,0,true⟩] (putM (fun _=>none) [97] 0))∧(Blk v (g0+1) 25 (crB none 0 0 0 0 none 0 0)∧Blk v (g0+2) 3 #[.int .i64 0]∧Blk v (g0+3) 47 #[.int .i64 0]):=⟨_,rfl⟩
 obtain ⟨I2,hI2⟩:∃ I:World→Prop,I=fun v=>Below w.heap.size w v∧FiP (g0+8) v (g0+7) (g0+4) 1 0 gsC ⟨⟨#[111]⟩,1⟩∧(Blk v (g0+1) 25 (crB none 0 0 0 0 none 0 0)∧Blk v (g0+2) 3 #[.int .i64 0]∧Blk v (g0+3) 47 #[.int .i64 0]):=⟨_,rfl⟩
 have i0:∀ {v v':World},I0 v→Below v.heap.size v v'→I0 v':=by
  subst hI0;exact fun {v v'} h hb=>⟨h.1.trans (hb.mono h.1.size),h.2.1.below hb,h.2.2.1.below hb h.2.2.1.lt,h.2.2.2.1.below hb h.2.2.2.1.lt,h.2.2.2.2.below hb h.2.2.2.2.lt⟩
 have i1:∀ {v v':World},I1 v→Below v.heap.size v v'→I1 v':=by
  subst hI1;exact fun {v v'} h hb=>⟨h.1.trans (hb.mono h.1.size),h.2.1.imp fun hi hs=>hs.below hb,h.2.2.1.below hb h.2.2.1.lt,h.2.2.2.1.below hb h.2.2.2.1.lt,h.2.2.2.2.below hb h.2.2.2.2.lt⟩
 have keep:∀ {hi:Nat} {v v':World},Upd (XB (g0+8) hi (g0+7) (g0+4) (g0+5)) v v'→Below w.heap.size w v→(Blk v (g0+1) 25 (crB none 0 0 0 0 none 0 0)∧Blk v (g0+2) 3 #[.int .i64 0]∧Blk v (g0+3) 47 #[.int .i64 0]) →
   Below w.heap.size w v'∧(Blk v' (g0+1) 25 (crB none 0 0 0 0 none 0 0)∧Blk v' (g0+2) 3 #[.int .i64 0]∧Blk v' (g0+3) 47 #[.int .i64 0]):=fun {hi v v'} hu hb h=>
  ⟨hb.trans (hu.below (B:=w.heap.size) hb.size fun b hb=>by unfold XB at hb;omega),h.1.upd hu (by unfold XB;omega),h.2.1.upd hu (by unfold XB;omega),h.2.2.upd hu (by unfold XB;omega)⟩
 have HST:=Hi fun (v:World) (hv:Below w4.heap.size w4 v)=>stmts2 HP.out (g0+7) I0 I1 I2 i0 i1 (fun v h=>by subst hI0;exact h.1) (fun v h=>by subst hI1;exact h.1)
  (fun v k a s n A la cA B lb cB hI hT=>by
   subst hI0;subst hI1;obtain ⟨rfl,rfl,rfl,rfl,rfl,rfl,-,-,-,hLB,-,-,-⟩:=hT.parts;obtain ⟨h1,h2,h3⟩:=hI;refine (stS (w0:=w) v h1 h2 (by omega) (by decide) (by decide) [97] (by decide) 0 [] 0 A 0 cA B cB hLB).mono ?_;rintro e v' ⟨rfl,h4,h5⟩;obtain ⟨h6,h7⟩:=keep h5 h1 h3;exact ⟨rfl,h6,⟨_,h4⟩,h7⟩)
  (fun v k a s n A la cA B lb cB hI hT=>by
   subst hI1;subst hI2;obtain ⟨rfl,rfl,rfl,rfl,rfl,rfl,hP1,-,-,-,-,-,-⟩:=hT.parts;obtain ⟨h1,⟨hi,h2⟩,h3⟩:=hI;refine (stO (w0:=w) v h1 h2 (by omega) (by decide) 0 ⟨1,0,0,0,true⟩ rfl [97] (by decide) rfl 10 [111] 0 A cA B 0 cB 18 19 0 0 hP1).mono ?_;rintro e v' ⟨rfl,h4,h5⟩;obtain ⟨h6,h7⟩:=keep h5 h1 h3;exact ⟨rfl,h6,h4,h7⟩)
  v (by
   subst hI0;exact ⟨HB4.out.trans (hv.mono HB4.out.size),HBS.out.below hv,HR1.out.below hv HR1.out.lt,HR2.out.below hv HR2.out.lt,HR3.out.below hv HR3.out.lt⟩)
 have HI2:=Hi (fun (v:World) (h:I2 v)=>(show Below w.heap.size w v∧FiP (g0+8) v (g0+7) (g0+4) 1 0 gsC ⟨⟨#[111]⟩,1⟩∧(Blk v (g0+1) 25 (crB none 0 0 0 0 none 0 0)∧Blk v (g0+2) 3 #[.int .i64 0]∧Blk v (g0+3) 47 #[.int .i64 0]) by subst hI2;exact h));clear i0 i1 hI0 hI1 hI2 keep;go_wp2_with fail
 refine (show Calls Tryz.prog 42 #[.pointer (some ⟨g0+7,0,none⟩),.slice A 2 cA] w4 _ from HLN.out).mono ?_;rintro e w8 ⟨rfl,hb8⟩;have HS8:=Hi (HST.out w8 hb8);have hX8:=HXN4.out.below hb8 HXN4.out.lt;clear e0 e1 e2 e3 e4 e5 z0 z1 z2 z3 z4 z5 hgx hb8;obtain ⟨⟨e0,e1,e2,e3,e4,e5⟩,z0,z1,z2,z3,z4,z5⟩:=Pa.Blk.c6 hX8;have hgx:=hX8.lt;clear hX8;go_wp2_with fail
 refine (show Calls Tryz.prog 43 #[.pointer (some ⟨g0+7,0,none⟩),.slice A 2 cA] w8 _ from HS8.out).mono ?_;rintro e w9 ⟨rfl,hI9⟩;obtain ⟨hB9,⟨hp9,hl9,A9,c9,B9,d9,hC9,hCi⟩,hr1,hr2,hr3⟩:=HI2.out w9 hI9;clear e0 e1 e2 e3 e4 e5 z0 z1 z2 z3 z4 z5 hgx hI9;obtain ⟨x0,x1,x2,x3,f0,f1,f2,f3⟩:=Blk.c4 hC9;obtain ⟨y0,y1,y2,y3,k0,k1,k2,k3⟩:=Blk.c4 hr1;have q2:=hr2.cell 0;have q3:=hr3.cell 0;have v2:=hr2.frozen 0;have v3:=hr3.frozen 0;simp only [List.getElem?_toArray,List.getElem?_cons_zero] at q2 q3;have l1:=hC9.lt;have l2:=hr1.lt;have l3:=hr2.lt;have l4:=hr3.lt;obtain ⟨wz,hwz⟩:∃ v,(((((w9.setCell ⟨g0+1,0,none⟩ (.slice A9 2 c9)).setCell ⟨g0+1,1,none⟩ (.int .i64 1)).setCell ⟨g0+1,2,none⟩ (.int .i64 0)).setCell ⟨g0+1,3,none⟩ (.slice B9 1 d9)).setCell ⟨g0+2,0,none⟩ (.int .i64 0)).setCell ⟨g0+3,0,none⟩ (.int .i64 0)=v:=⟨_,rfl⟩;have hu:Upd (fun b=>b=g0+1∨b=g0+2∨b=g0+3) w9 wz:=by
  rw [←hwz];exact ((((((Upd.refl _ w9).setCell (p:=⟨g0+1,0,none⟩) (fun _=>.inl rfl) _).setCell (p:=⟨g0+1,1,none⟩) (fun _=>.inl rfl) _).setCell (p:=⟨g0+1,2,none⟩) (fun _=>.inl rfl) _).setCell (p:=⟨g0+1,3,none⟩) (fun _=>.inl rfl) _).setCell (p:=⟨g0+2,0,none⟩) (fun _=>.inr (.inl rfl)) _).setCell (p:=⟨g0+3,0,none⟩) (fun _=>.inr (.inr rfl)) _
 have hz1:Blk wz (g0+1) 25 (crB A9 2 c9 1 0 B9 1 d9):=by
  rw [←hwz];exact (((((hr1.set 0 (.slice A9 2 c9)).set 1 (.int .i64 1)).set 2 (.int .i64 0)).set 3 (.slice B9 1 d9)).far (p:=⟨g0+2,0,none⟩) (by show g0+1≠g0+2;omega) _).far (p:=⟨g0+3,0,none⟩) (by show g0+1≠g0+3;omega) _
 have hz2:Blk wz (g0+2) 3 #[.int .i64 0]:=by
  rw [←hwz];exact ((((((hr2.far (p:=⟨g0+1,0,none⟩) (by show g0+2≠g0+1;omega) _).far (p:=⟨g0+1,1,none⟩) (by show g0+2≠g0+1;omega) _).far (p:=⟨g0+1,2,none⟩) (by show g0+2≠g0+1;omega) _).far (p:=⟨g0+1,3,none⟩) (by show g0+2≠g0+1;omega) _).set 0 (.int .i64 0))).far (p:=⟨g0+3,0,none⟩) (by show g0+2≠g0+3;omega) _
 have hz3:Blk wz (g0+3) 47 #[.int .i64 0]:=by
  rw [←hwz];exact ((((((hr3.far (p:=⟨g0+1,0,none⟩) (by show g0+3≠g0+1;omega) _).far (p:=⟨g0+1,1,none⟩) (by show g0+3≠g0+1;omega) _).far (p:=⟨g0+1,2,none⟩) (by show g0+3≠g0+1;omega) _).far (p:=⟨g0+1,3,none⟩) (by show g0+3≠g0+1;omega) _).far (p:=⟨g0+2,0,none⟩) (by show g0+3≠g0+2;omega) _).set 0 (.int .i64 0))
 have n1:¬ g0+1=g0+2:=by omega
 have n2:¬ g0+1=g0+3:=by omega
 have n3:¬ g0+2=g0+3:=by omega
 have n4:¬ g0+2=g0+1:=by omega
 have n5:¬ g0+3=g0+1:=by omega
 have n6:¬ g0+3=g0+2:=by omega
 have HEND:=Hi (show Below w.heap.size w wz from hB9.trans (hu.below (B:=w.heap.size) hB9.size fun b hb=>by omega));have HCZ:=Hi (show ∀ w'' X,Upd X wz w''→(∀ k,X k→k < w.heap.size)→Cir w'' A9 c9 B9 d9 gsC osC from fun w'' X hx hk=>hCi w'' (fun b=>X b∨(b=g0+1∨b=g0+2∨b=g0+3)) ((hu.mono fun k h=>.inr h).trans (hx.mono fun k h=>.inl h)) fun k h=>by
  rcases h with h | h
  ·have:=hk k h;omega
  ·omega)
 have HZ1:=Hi hz1;have HZ2:=Hi hz2;have HZ3:=Hi hz3;have HWZ:=Hi hwz;clear hB9 hC9 hCi hr1 hr2 hr3 hwz hu hz1 hz2 hz3;go_wp2_with fail
 rw [HWZ.out];refine leaves_cons (f:=41) (args:=#[.pointer (some ⟨g0+1,0,none⟩),.pointer (some ⟨g0+2,0,none⟩),.pointer (some ⟨g0+3,0,none⟩)]) (by simp) (by simp [go_sem]) ?_;refine (catchC ⟨g0+1,0,none⟩ ⟨g0+2,0,none⟩ ⟨g0+3,0,none⟩ _).mono ?_;rintro e u' w7 ⟨rfl,rfl,rfl⟩;exact ⟨_,resC HZ1.out HZ2.out HZ3.out _ rfl rfl rfl,A9,c9,B9,d9,rfl,HCZ.out,HEND.out⟩
theorem resT{fn:Func}{p q r:Tmp}(h:fn.results = #[.cell p 25,.tmp q,.tmp r]){g:Nat}{cs:Array Value}{W:World}(h1:Blk W g 25 cs)(tmps:Array Value){a e:Value}(k1:tmps.getD p undef = .pointer (some ⟨g,0,none⟩))(k2:tmps.getD q undef=a)(k3:tmps.getD r undef=e)(hs:some 4=some cs.size:=by rfl) :
  (results fn tmps).run Tryz.prog W = .ok (.tuple #[.agg cs,a,e]) W:=by
 subst k2;subst k3;have hp':tmps[p]?.getD undef = .pointer (some ⟨g,0,none⟩):=by simpa using k1
 simp [results,h,hp',asAddr,run_loadVar_row W g 25 25 cs (0,0) _ h1 Tryz.underlying25 rfl (szC.trans hs)]
theorem textC(w:World):Calls Tryz.prog 23 #[.string ⟨txC.toArray⟩] w fun e w'=>∃ A' cA' B' cB',e = .returned (.tuple #[crV A' 2 cA' 1 0 B' 1 cB',.int .i64 0,.int .i64 0])∧Cir w' A' cA' B' cB' gsC osC∧Below w.heap.size w w':=by
 obtain ⟨w1,hw1,hb1,hX1,hs1⟩:=c_box w (crB none 0 0 0 0 none 0 0);have HF:=Hi (fpC w1);have HB1:=Hi hb1;have HX1:=Hi hX1;have HW1:=Hi (show w.alloc (.cells #[.slice none 0 0,.int .i64 0,.int .i64 0,.slice none 0 0] 25)=w1 from hw1);clear hw1 hb1 hX1 hs1;go_enter Tryz.func23,Tryz.ntmps23;go_upto_region 1 with fail
 rw [HW1.out];go_wp2_with fail
 refine (show Calls Tryz.prog 33 #[.string ⟨#[115,101,99,114,101,116,32,97,59,32,111,117,116,32,111,32,61,32,126,97,59]⟩] w1 _ from HF.out).mono ?_;rintro e w2 ⟨k,a,sx,n,A,la,cA,B,lb,cB,As,ls,cs,Ap,lp,cp,Ao,lo',co,rfl,hT,hb2⟩;obtain ⟨w3,hw3,hb3,hX3,hs3⟩:=a_box w2 (nB k a sx n A la cA B lb cB);obtain ⟨w4,hw4⟩:∃ v,w3.alloc (.cells #[.slice As ls cs,.slice Ap lp cp,.slice Ao lo' co] 65)=v:=⟨_,rfl⟩;have hb4:Below w3.heap.size w3 w4:=by rw [←hw4];exact (Below.refl _ _).alloc (Nat.le_refl _) _
 have hb24:=hb3.trans (hb4.mono hb3.size);have hX4:=hX3.below hb4 hX3.lt;have HB14:=Hi (hb2.trans (hb24.mono hb2.size));have HO:=Hi (built w4 k a sx n A la cA B lb cB (hT.below hb24));have HW3:=Hi hw3;have HW4:=Hi hw4;obtain ⟨⟨e0,e1,e2,e3,e4,e5⟩,z0,z1,z2,z3,z4,z5⟩:=Pa.Blk.c6 hX4;have hgl:=hX4.lt;clear hT hb2 hw3 hb3 hX3 hs3 hw4 hb4 hb24 hX4;go_upto_region 2 with fail
 rw [HW3.out,HW4.out];go_wp2_with fail
 refine (show Calls Tryz.prog 34 #[nzA k a sx n A la cA B lb cB] w4 _ from HO.out).mono ?_;rintro e w5 ⟨A5,c5,B5,d5,rfl,hC5,hb5⟩;clear e0 e1 e2 e3 e4 e5 z0 z1 z2 z3 z4 z5 hgl;have hb15:=HB14.out.trans (hb5.mono HB14.out.size);have hX5:=HX1.out.below hb15 HX1.out.lt;obtain ⟨x0,x1,x2,x3,f0,f1,f2,f3⟩:=Blk.c4 hX5;have hgl:=hX5.lt;obtain ⟨wz,hwz⟩:∃ v,(((w5.setCell ⟨w.heap.size,0,none⟩ (.slice A5 2 c5)).setCell ⟨w.heap.size,1,none⟩ (.int .i64 1)).setCell ⟨w.heap.size,2,none⟩ (.int .i64 0)).setCell ⟨w.heap.size,3,none⟩ (.slice B5 1 d5)=v:=⟨_,rfl⟩;have hz1:Blk wz w.heap.size 25 (crB A5 2 c5 1 0 B5 1 d5):=by
  rw [←hwz];exact (((hX5.set 0 (.slice A5 2 c5)).set 1 (.int .i64 1)).set 2 (.int .i64 0)).set 3 (.slice B5 1 d5)
 have hu:Upd (fun b=>b=w.heap.size) w5 wz:=by
  rw [←hwz];exact ((((Upd.refl (fun b=>b=w.heap.size) w5).setCell (p:=⟨w.heap.size,0,none⟩) (fun _=>rfl) _).setCell (p:=⟨w.heap.size,1,none⟩) (fun _=>rfl) _).setCell (p:=⟨w.heap.size,2,none⟩) (fun _=>rfl) _).setCell (p:=⟨w.heap.size,3,none⟩) (fun _=>rfl) _
 have hsz:=HX1.out.lt;have hsz2:=HB14.out.size;have HEND:=Hi (show Cir wz A5 c5 B5 d5 gsC osC∧Below w.heap.size w wz from ⟨hC5 wz _ hu fun k hk=>by omega,(HB1.out.trans (hb15.mono HB1.out.size)).trans (hu.below (B:=w.heap.size) (HB1.out.trans (hb15.mono HB1.out.size)).size fun b hb=>by omega) |>.mono (Nat.le_refl _)⟩);have HZ1:=Hi hz1;have HWZ:=Hi hwz;clear hC5 hb5 hb15 hX5 hwz hz1 hu hsz hsz2;go_wp2_with fail
 rw [HWZ.out];exact bodyPost_ret (v:=.tuple #[crV A5 2 c5 1 0 B5 1 d5,.int .i64 0,.int .i64 0]) (resT rfl HZ1.out _ rfl rfl rfl) rfl ⟨A5,c5,B5,d5,rfl,HEND.out.1,HEND.out.2⟩
theorem caC:caB 1 0 gsC osC=true:=by decide
theorem ouC:ouL [5] [] 1 0 gsC osC=[4294967290]:=by
 unfold ouL;rw [if_pos caC];decide
theorem lives(w:World):Calls Tryz.prog 9 #[] w fun e w'=>e = .returned (.bool true)∧Below w.heap.size w w':=by
 have HT:=Hi (textC w);go_enter Tryz.func9,Tryz.ntmps9;go_wp2_with fail
 refine (show Calls Tryz.prog 23 #[.string ⟨#[115,101,99,114,101,116,32,97,59,32,111,117,116,32,111,32,61,32,126,97,59]⟩] w _ from HT.out).mono ?_;rintro e w1 ⟨A,cA,B,cB,rfl,hC,hb1⟩;obtain ⟨w2,hw2,hb2,hX2,hs2⟩:=c_box w1 (crB A 2 cA 1 0 B 1 cB);obtain ⟨w3,hw3⟩:∃ v,w2.alloc (.cells #[.int .u32 5] 35)=v:=⟨_,rfl⟩;have hb3:Below w2.heap.size w2 w3:=by rw [←hw3];exact (Below.refl _ _).alloc (Nat.le_refl _) _
 have hL3:Lies w3 (some ⟨w2.heap.size,0,none⟩) ([(5:BitVec 32)].map u):=by rw [←hw3];exact lies_full _ _ ([(5:BitVec 32)].map u)
 have hC3:=(hC.below hb2).below hb3;have HOU:=Hi (Outs w3 hC3 1 0 (S:=[5]) (P:=[]) (sC:=1) (pC:=0) hL3 (Lies.nil _ none) (by decide) (by decide) (by decide));rw [ouC] at HOU;have hX3:=hX2.below hb3 hX2.lt;have HX3:=Hi hX3;have HB3:=Hi (hb1.trans ((hb2.trans (hb3.mono hb2.size)).mono hb1.size));have HW2:=Hi (show w1.alloc (.cells #[.slice A 2 cA,.int .i64 1,.int .i64 0,.slice B 1 cB] 25)=w2 from hw2);have HW3:=Hi hw3;obtain ⟨e0,e1,e2,e3,z0,z1,z2,z3⟩:=Blk.c4 hX2;have hgl:=hX2.lt;unfold WsP at HOU;clear hC hb1 hw2 hb2 hX2 hs2 hw3 hb3 hL3 hC3 hX3;go_upto_region 2 with fail
 rw [HW2.out];go_wp2_with fail
 rw [HW3.out];refine (show Calls Tryz.prog 15 #[crV A 2 cA 1 0 B 1 cB,.slice (some ⟨w2.heap.size,0,none⟩) 1 1,.slice none 0 0] w3 _ from HOU.out).mono ?_;rintro e w4 ⟨A4,c4,rfl,hL4,hb4⟩;have f1:([(4294967290:BitVec 32)].map u)[0]?=some (.int .u32 4294967290):=rfl;obtain ⟨b,o,rfl,hbl,hc1⟩:=hL4.at_ f1;have k1:=hc1 _ _ f1;simp only [Nat.add_zero] at k1;have hX4:=HX3.out.below hb4 HX3.out.lt;have HEND:=Hi (HB3.out.trans (hb4.mono HB3.out.size));clear e0 e1 e2 e3 z0 z1 z2 z3 hgl hL4 hb4 hc1 f1;obtain ⟨e0,e1,e2,e3,z0,z1,z2,z3⟩:=Blk.c4 hX4;have hgl:=hX4.lt;clear hX4;go_wp2_with fail
 go_ret;exact ⟨rfl,HEND.out⟩
end Go.Proofs.YtdhoemlomojfaaaGreatDoor.Ci
namespace Go.Proofs.YtdhoemlomojfaaaGreatDoor.Args
open Go Go.ChangeShapes Go.WideShapes Go.ChangeAt Go.RowKit
def Liv(base:Nat)(w:World)(A:Option Addr)(xs:List Value):Prop:=∀ j u,xs[j]?=some u→∃ g,A=some ⟨g,0,none⟩∧base≤g∧w.cell? ⟨g,j,none⟩=some u
theorem Liv.nil(base:Nat)(w:World)(A:Option Addr):Liv base w A []:=fun j u h=>by simp at h
theorem Liv.lies{base:Nat}{w:World}{A:Option Addr}{xs:List Value}(h:Liv base w A xs):Lies w A xs:=fun j u hj=>by
 obtain ⟨g,rfl,_,hc⟩:=h j u hj;exact ⟨_,rfl,by rw [add_plain,Nat.zero_add];exact hc⟩
theorem Liv.low{base base':Nat}{w:World}{A:Option Addr}{xs:List Value}(h:Liv base w A xs)(hb:base'≤base):Liv base' w A xs:=fun j u hj=>by
 obtain ⟨g,e,h1,h2⟩:=h j u hj;exact ⟨g,e,Nat.le_trans hb h1,h2⟩
theorem Liv.upd{base:Nat}{w w':World}{A:Option Addr}{xs:List Value}{X:Nat→Prop}(h:Liv base w A xs)(hu:Upd X w w')(hx:∀ k,base≤k→¬ X k):Liv base w' A xs:=fun j u hj=>by
 obtain ⟨g,e,h1,h2⟩:=h j u hj;exact ⟨g,e,h1,(hu.cell (p:=⟨g,j,none⟩) (World.block_lt_of_cell? w _ h2) (hx g h1)).trans h2⟩
theorem Liv.below{base:Nat}{w w':World}{A:Option Addr}{xs:List Value}(h:Liv base w A xs)(hb:Below w.heap.size w w'):Liv base w' A xs:=h.upd (Upd.of_below hb fun _=>False) fun _ _=>id
theorem liv_own{w:World}{base:Nat}{e:TypeId}{size n c:Nat}{A:Option Addr}{xs:List Value}(h:w.ownsRow base e size (.slice A n c) n xs):Liv base w A xs:=by
 rcases h.2 with ⟨e1,rfl⟩ | ⟨g,cap,cur,e1,hb,_⟩
 ·have:xs=[]:=List.eq_nil_of_length_eq_zero (by simpa using h.1);subst this;exact Liv.nil _ _ _
 ·injection e1 with e1 e2 e3
  subst e1;exact fun j u hj=>⟨g,rfl,hb,by have:=h.cells (g:=g) rfl j u hj;rw [add_plain,Nat.zero_add] at this;exact this⟩
section
variable {P : Program} {w : World}
theorem run_fresh0(t ty e:TypeId)(i:TypeInfo)(z:Value)(size bytes:Nat)(ht:P.underlying t=some (.slice e))(hi:P.info? e=some i)(hz:i.zero=some z)
  (hsize:i.size=size) (hby:i.bytes=bytes) (hzs:z.cells.size=size) (hsz:0 < size) (b:Nat)
  (A:Option Addr) (m c:Nat) (news:List Value) (hl:news.length=m * size) (hL:Lies w A news) (h63:m≤maxLen) (hbytes:m * bytes≤140737488355328) :
  ∃ A' c' w',(Builtin.append_ #[t,t] ty #[.slice (some ⟨b,0,none⟩) 0 0,.slice A m c]).run P w = .ok (.slice A' m c') w'∧m≤c'∧c'≤maxLen∧Liv w.heap.size w' A' news∧w.grownBy w' none:=by
 by_cases hm:m = 0
 ·subst hm;have hn:news=[]:=List.eq_nil_of_length_eq_zero (by simpa using hl);subst hn;refine ⟨some ⟨b,0,none⟩,0,w,?_,Nat.le_refl _,by decide,Liv.nil _ _ _,World.grownBy.refl w _⟩;cases A with
  | none=>simp [Builtin.append_,run_underlying ht,sizeOf,typeInfo,hi,Builtin.lenOf,Builtin.firstCells,storeCells]
  | some a=>
   have hl:(loadCells a 0).run P w = .ok #[] w:=by
    have:=run_loadCells_list (P:=P) w a [] (fun j v hj=>by simp at hj);simpa using this
   simp [Builtin.append_,run_underlying ht,sizeOf,typeInfo,hi,Builtin.lenOf,Builtin.firstCells,storeCells,hl]
 ·cases A with
  | none=>
   have:0 < news.length:=by rw [hl];exact Nat.mul_pos (by omega) hsz
   obtain ⟨a,h,_⟩:=hL 0 (news[0]'this) (List.getElem?_eq_getElem this);cases h
  | some ad=>
   obtain ⟨v',w',hr,h2,h3⟩:=run_append_arg_grows (P:=P) (w:=w) t ty e i z size bytes ht hi hz hsize hby hzs hsz ⟨b,0,none⟩ 0 0 [] (by simp) (fun j u hj=>by simp at hj) ad m c news hl (fun j u hj=>by
    obtain ⟨a,ha,hc⟩:=hL j u hj;cases ha;exact hc) (by omega) (by omega) (by rw [Nat.zero_add];exact hbytes)
   rw [Nat.zero_add,List.nil_append] at h2;obtain ⟨A',c',rfl,h4,h5,h6⟩:=sl_own h2;exact ⟨A',c',w',hr,h4,h5,liv_own h2,h3⟩
theorem wp_fresh0{o:Oper}{a:Act}{K:Act→World→Prop}{Q:Exit→Act→World→Prop}(s x:Operand)(t:TypeId)
  (ho:o.op = .call { callee:=.builtin .append,args:=#[s,x],argTypes:=#[t,t] })
  (e:TypeId) (i:TypeInfo) (z:Value) (size bytes:Nat) (ht:P.underlying t=some (.slice e)) (hi:P.info? e=some i) (hz:i.zero=some z)
  (hsize:i.size=size) (hby:i.bytes=bytes) (hzs:z.cells.size=size) (hsz:0 < size) (b:Nat) (hs:a.eval s = .slice (some ⟨b,0,none⟩) 0 0)
  (A:Option Addr) (m c:Nat) (news:List Value) (hx:a.eval x = .slice A m c) (hl:news.length=m * size) (hL:Lies w A news) (h63:m≤maxLen) (hbytes:m * bytes≤140737488355328)
  (h:∀ A' c' w',m≤c'→c'≤maxLen→Liv w.heap.size w' A' news→Below w.heap.size w w'→K (a.put o.dst (.slice A' m c')) w'):o.wp P a w K Q:=by
 obtain ⟨A',c',w',hrun,h1,h2,h3,h4⟩:=run_fresh0 (P:=P) t o.type e i z size bytes ht hi hz hsize hby hzs hsz b A m c news hl hL h63 hbytes;unfold Oper.wp execOp;simp only [ho,resolve,invoke,builtin,Sem.run_bind,Sem.run_pure,Result.andThen_ok,List.map_toArray,List.map_cons,List.map_nil,hs,hx,hrun];exact h A' c' w' h1 h2 h3 ((Below.refl w.heap.size w).grown h4 (Nat.le_refl _) (fun k e=>by cases e))
theorem wpList_fresh0{ops:Array Oper}{rest:List Oper}{o:Oper}{a:Act}{Q:Exit→Act→World→Prop}(hgd:o.guard=none)(s x:Operand)(t:TypeId)
  (ho:o.op = .call { callee:=.builtin .append,args:=#[s,x],argTypes:=#[t,t] })
  (e:TypeId) (i:TypeInfo) (z:Value) (size bytes:Nat) (ht:P.underlying t=some (.slice e)) (hi:P.info? e=some i) (hz:i.zero=some z)
  (hsize:i.size=size) (hby:i.bytes=bytes) (hzs:z.cells.size=size) (hsz:0 < size) (b:Nat) (hs:a.eval s = .slice (some ⟨b,0,none⟩) 0 0)
  (A:Option Addr) (m c:Nat) (news:List Value) (hx:a.eval x = .slice A m c) (hl:news.length=m * size) (hL:Lies w A news) (h63:m≤maxLen) (hbytes:m * bytes≤140737488355328)
  (h:∀ A' c' w',m≤c'→c'≤maxLen→Liv w.heap.size w' A' news→Below w.heap.size w w'→wpList P ops Q rest (a.put o.dst (.slice A' m c')) w'):wpList P ops Q (o :: rest) a w:=
 wpList_plain hgd fun _ hK=>wp_fresh0 s x t ho e i z size bytes ht hi hz hsize hby hzs hsz b hs A m c news hx hl hL h63 hbytes fun A' c' w' h2 h3 h4 h5=>hK _ _ (h A' c' w' h2 h3 h4 h5)
theorem step_fresh0{ops:Array Oper}{o:Oper}{a:Act}{K:Act→World→Prop}{Q:Exit→Act→World→Prop}{E:Prop}(hgd:o.guard=none)(s x:Operand)(t:TypeId)
  (ho:o.op = .call { callee:=.builtin .append,args:=#[s,x],argTypes:=#[t,t] })
  (e:TypeId) (i:TypeInfo) (z:Value) (size bytes:Nat) (ht:P.underlying t=some (.slice e)) (hi:P.info? e=some i) (hz:i.zero=some z)
  (hsize:i.size=size) (hby:i.bytes=bytes) (hzs:z.cells.size=size) (hsz:0 < size) (b:Nat) (hs:a.eval s = .slice (some ⟨b,0,none⟩) 0 0)
  (A:Option Addr) (m c:Nat) (news:List Value) (hx:a.eval x = .slice A m c) (hl:news.length=m * size) (hL:Lies w A news) (h63:m≤maxLen) (hbytes:m * bytes≤140737488355328)
  (h:∀ A' c' w',m≤c'→c'≤maxLen→Liv w.heap.size w' A' news→Below w.heap.size w w'→K (a.put o.dst (.slice A' m c')) w') :
  if Region.wanted o (yielded ops a.tmps)=true then Oper.wp P o a w K Q else E:=by
 have hw:Region.wanted o (yielded ops a.tmps)=true:=by simp [Region.wanted,hgd]
 rw [if_pos hw];exact wp_fresh0 s x t ho e i z size bytes ht hi hz hsize hby hzs hsz b hs A m c news hx hl hL h63 hbytes h
end
end Go.Proofs.YtdhoemlomojfaaaGreatDoor.Args
