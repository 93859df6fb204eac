/- DERIVED. EvLv, EvLx, EvArg, NmTb. By an AI agent. -/
import Derived.Test.YtcgibpdjfgjldaaGreatDoorU32
import Derived.Test.YtcgibpdjfgjldaaGreatDoorU36
import Derived.SliceStrings
import Derived.ChangeMaps5
import Derived.LaidMore
import Derived.LaidLaws
import Derived.MakeChecks
import Derived.Stop.Joined
import Derived.Lay
set_option maxRecDepth 100000
set_option maxHeartbeats 8000000
set_option linter.unusedVariables false
set_option linter.unusedSimpArgs false
namespace Go.Proofs.YtcgibpdjfgjldaaGreatDoor
namespace Ev
open Go Go.ChangeShapes Go.WideShapes Go.ChangeAt Go.RowKit Lx Args Pa Sh Go.Proofs.YtcgibpdjfgjldaaGreatDoor.Nm WMath Fl
section
def txE:Bs:=[115,101,99,114,101,116,32,97,59,32,111,117,116,32,111,32,61,32,97,32,43,32,49,59]
def tkE':List Tk:=[⟨3,[115,101,99,114,101,116],0⟩,⟨1,[97],7⟩,⟨4,[59],8⟩,⟨3,[111,117,116],10⟩,⟨1,[111],14⟩,⟨4,[61],16⟩,⟨1,[97],18⟩,⟨4,[43],20⟩,⟨2,[49],22⟩,⟨4,[59],23⟩,⟨0,[],24⟩]
def xE:Tr:=.mk 3 18 [43] 0 [] [.mk 1 18 [97] 0 [] [],.mk 0 22 [] 1 [] []]
def zsE:List Tr:=[.mk 6 0 [] 0 [[97]] [],.mk 8 10 [111] 0 [] [xE]]
theorem wordsE:wordsL txE=⟨tkE',0,0⟩:=V6
theorem treeE:pF numV 60 (.stmts []) 0 tkE'=some (.ok zsE [⟨0,[],24⟩]):=V6
theorem progE:ProgR tkE' (.ok [.mk 13 0 [] 0 [] zsE] [⟨0,[],24⟩]):=⟨zsE,rfl,⟨60,fun f hf=>q4D numV 60 f hf _ _ _ _ treeE⟩,_,_,rfl,rfl⟩
theorem ckE:∃ c,ckB (embz (.mk 13 0 [] 0 [] zsE)) = .ok c:=⟨_,rfl⟩
theorem flE:∃ d,flB worB XM 61 2000 (embz (.mk 13 0 [] 0 [] zsE)) = .ok d:=⟨_,rfl⟩
abbrev yE:Tz:=.mk 3 18 [43] 0 [] [.mk 1 18 [97] 0 [] [],.mk 0 22 [] 1 [] []]
abbrev knE:Kn:=putN (fun _=>none) [97] 7
theorem mdY:mdE yE:=by
 simp [mdE,mdEs]
theorem canY:canB knE yE=true:=V6
theorem shfY:shf yE=false:=V6
theorem wdY:wdB knE yE = 8:=V6
theorem fpE(w:World):Calls Tryz.prog 13 #[.string ⟨txE.toArray⟩] w fun e w'=>∃ (k a:Int) (sx:Bs) (n:Nat) (A:Option Addr) (la cA:Nat) (B:Option Addr) (lb cB:Nat) (As:Option Addr) (ls cs:Nat) (Ap:Option Addr) (lp cp:Nat) (Ao:Option Addr) (lo' co:Nat),e = .returned (.tuple #[nzA k a sx n A la cA B lb cB,.agg #[.slice As ls cs,.slice Ap lp cp,.slice Ao lo' co],.int .i64 0,.int .i64 0]) /\
  TrV w' (.mk 13 0 [] 0 [] [.mk 6 0 [] 0 [[97]] [],.mk 8 10 [111] 0 [] [yE]]) k a sx n A la cA B lb cB/\Below w.heap.size w w':=by
 refine (fpgmT ⟨txE.toArray⟩ w).mono fun e w' h=>?_
 have hw:wordsL (⟨txE.toArray⟩:ByteArray).data.toList=⟨tkE',0,0⟩:=wordsE;obtain ⟨c0,hc0⟩:=ckE;obtain ⟨d0,hd0⟩:=flE;rcases h with ⟨k,a,sx,n,A,la,cA,B,lb,cB,As,ls,cs,Ap,lp,cp,Ao,co,x,t,r,c,d,rfl,h1,h2,h3,h4,hL,hb,hT⟩ | ⟨a,er,rfl,hne,hbad,hb⟩
 ·rw [hw] at h2;obtain rfl:=q3G h2 progE;exact ⟨k,a,sx,n,A,la,cA,B,lb,cB,As,ls,cs,Ap,lp,cp,Ao,d.ou.length,co,rfl,hT,hb⟩
 ·exfalso;rcases hbad with (⟨a',_,h⟩ | ⟨_,_,x,t,r,h,h'⟩) | ⟨_,x,t,r,c,h,h',h''⟩
  ·exact q4Z (l:=wordsL (⟨txE.toArray⟩:ByteArray).data.toList) (by rw [hw]) (by rw [hw];exact progE) h
  ·rw [hw] at h;obtain rfl:=q3G h progE;rw [hc0] at h';cases h'
  ·rw [hw] at h;obtain rfl:=q3G h progE;rw [hd0] at h'';cases h''
attribute [local go_sem] q1L
def OutE(w:World)(e:Ending)(w':World):Prop:=(∃ A c,e = .returned (.slice A 1 c)/\Lies w' A [uV 8])/\Below w.heap.size w w'
theorem outsE(w:World)(b2:Nat)(hS:Lies w (some ⟨b2,0,none⟩) [uV 7])(k a:Int)(s:Bs)(n:Nat)(A:Option Addr)(la cA:Nat)(B:Option Addr)(lb cB:Nat)(hT:TrV w (.mk 13 0 [] 0 [] [.mk 6 0 [] 0 [[97]] [],.mk 8 10 [111] 0 [] [yE]]) k a s n A la cA B lb cB) :
  Calls Tryz.prog 45 #[nzA k a s n A la cA B lb cB,.slice (some ⟨b2,0,none⟩) 1 1,.slice none 0 0] w (OutE w):=by
 obtain ⟨rfl,rfl,rfl,rfl,rfl,rfl,hP,-,-,-,-,-,-⟩:=hT.parts;obtain ⟨gn,hgn⟩:∃ gn,w.heap.size=gn:=⟨_,rfl⟩;obtain ⟨w1,hw1,hb1,hX1,hs1⟩:=q05 w #[.int .i64 13,.string ⟨#[]⟩,.int .u32 0,.int .i64 0,.slice A 2 cA,.slice B 0 cB];rw [hgn] at hX1 hs1;obtain ⟨w2,hw2⟩:∃ u,w1.alloc (.map #[] 0)=u:=⟨_,rfl⟩;have hs2:w2.heap.size=gn+2:=V0o;obtain ⟨w3,hw3⟩:∃ u,w2.alloc (.cells #[.nilFunc,.map none,.map (some (gn+1)),.slice none 0 0,.slice (some ⟨b2,0,none⟩) 1 1,.slice none 0 0,.slice none 0 0] 147)=u:=⟨_,rfl⟩;have hs3:w3.heap.size=gn+3:=V2c;obtain ⟨w4,hw4⟩:∃ u,w3.alloc (.cells #[.pointer (some ⟨gn+2,0,none⟩)] 145)=u:=⟨_,rfl⟩;have hs4:w4.heap.size=gn+4:=by rw [<-hw4];simp [hs3]
 obtain ⟨w5,hw5⟩:∃ u,w4.alloc (.map #[] 0)=u:=⟨_,rfl⟩;have hs5:w5.heap.size=gn+5:=by rw [<-hw5];simp [hs4]
 obtain ⟨w6,hw6⟩:∃ u,w5.setCell ⟨gn+2,1,none⟩ (.map (some (gn+4)))=u:=⟨_,rfl⟩;obtain ⟨w7,hw7⟩:∃ u,w6.setCell ⟨gn+2,0,none⟩ (.func (.func 85) #[] #[.pointer (some ⟨gn+3,0,none⟩)])=u:=⟨_,rfl⟩;have hmk1:(Instr.makeMap 77 none).run Tryz.prog w1 = .ok (.map (some (gn+1))) w2:=V1O;have hmk2:(Instr.makeMap 73 none).run Tryz.prog w4 = .ok (.map (some (gn+4))) w5:=by rw [<-hw5,<-hs4];exact run_makeMap _ _
 have hb2:Below w1.heap.size w1 w2:=V1M;have hb3:Below w2.heap.size w2 w3:=V0N;have hb4:Below w3.heap.size w3 w4:=V4t;have hb5:Below w4.heap.size w4 w5:=V1N;have hb25:Below w2.heap.size w2 w5:=hb3.trans ((hb4.trans (hb5.mono hb4.size)).mono hb3.size);have hb15:Below w1.heap.size w1 w5:=hb2.trans (hb25.mono hb2.size);have hu57:Upd (·=gn+2) w5 w7:=by rw [<-hw7,<-hw6];exact ((Upd.refl (·=gn+2) w5).setCell (p:=⟨gn+2,1,none⟩) (fun _=>rfl) _).setCell (p:=⟨gn+2,0,none⟩) (fun _=>rfl) _
 have hR3:Blk w3 (gn+2) 147 #[.nilFunc,.map none,.map (some (gn+1)),.slice none 0 0,.slice (some ⟨b2,0,none⟩) 1 1,.slice none 0 0,.slice none 0 0]:=by
  have:=Blk.new w2 147 #[.nilFunc,.map none,.map (some (gn+1)),.slice none 0 0,.slice (some ⟨b2,0,none⟩) 1 1,.slice none 0 0,.slice none 0 0];rw [hs2,hw3] at this;exact this
 have hR4:=hR3.below hb4 hR3.lt;have hR5:=hR4.below hb5 hR4.lt;have hR6:Blk w6 (gn+2) 147 #[.nilFunc,.map (some (gn+4)),.map (some (gn+1)),.slice none 0 0,.slice (some ⟨b2,0,none⟩) 1 1,.slice none 0 0,.slice none 0 0]:=by rw [<-hw6];exact hR5.set 1 _
 have hR7:Rn w7 (gn+2) (.func (.func 85) #[] #[.pointer (some ⟨gn+3,0,none⟩)]) (.map (some (gn+4))) (gn+1) (.slice none 0 0) (.slice (some ⟨b2,0,none⟩) 1 1) (.slice none 0 0) (.slice none 0 0):=by rw [<-hw7];exact hR6.set 0 _
 have hQ4:Blk w4 (gn+3) 145 #[.pointer (some ⟨gn+2,0,none⟩)]:=by
  have:=Blk.new w3 145 #[.pointer (some ⟨gn+2,0,none⟩)];rw [hs3,hw4] at this;exact this
 have hQ5:=hQ4.below hb5 hQ4.lt;have hu56:Upd (·=gn+2) w5 w6:=by rw [<-hw6];exact (Upd.refl (·=gn+2) w5).setCell (p:=⟨gn+2,1,none⟩) (fun _=>rfl) _
 have hQ6:=hQ5.upd hu56 V0;have hQ7:=hQ5.upd hu57 V0;have hX7:=(hX1.below hb15 hX1.lt).upd hu57 V0;have hM7:MpU w7 (gn+1) 0 (fun _=>none):=by
  have h2:=MpG.made codU w1;rw [hs1,hw2] at h2;exact (h2.upd (X:=fun _=>False) (Upd.of_below hb25 fun _=>False) id).upd hu57 V0
 have hb07:Below w.heap.size w w7:=(hb1.trans (hb15.mono hb1.size)).trans (hu57.below (B:=w.heap.size) (hb1.trans (hb15.mono hb1.size)).size fun b hb=>V0);have HB07:=Hi hb07;have HR7:=Hi hR7;have HQ7:=Hi hQ7;have HX7:=Hi hX7;have HM7:=Hi hM7;have HP:=Hi hP;have HS:=Hi hS;have HW1:=Hi hw1;have HW3:=Hi hw3;have HW4:=Hi hw4;have HW6:=Hi hw6;have HW7:=Hi hw7;have HGN:=Hi hgn;have HS4:=Hi hs4;have HLN:=Hi (learn0 hP (by simp [kOf]) (gn+2) w7 hb07);have r4:=Blk.c7 hR4;have r5:=Blk.c7 hR5;have r6:=Blk.c7 hR6;have p4:=hQ4.cell 0;have p5:=hQ5.cell 0;have p6:=hQ6.cell 0;simp only [List.getElem?_toArray,List.getElem?_cons_zero] at p4 p5 p6;have R5:=Hi r5;have R6:=Hi r6;have P5:=Hi p5;have P6:=Hi p6;have HG5:=Hi hR5.lt;have HG6:=Hi hR6.lt;unfold OutE;obtain ⟨I0,hI0⟩:∃ I:World->Prop,I=fun v=>Below w.heap.size w v/\Rn v (gn+2) (.func (.func 85) #[] #[.pointer (some ⟨gn+3,0,none⟩)]) (.map (some (gn+4))) (gn+1) (.slice none 0 0) (.slice (some ⟨b2,0,none⟩) 1 1) (.slice none 0 0) (.slice none 0 0)/\MpU v (gn+1) 0 (fun _=>none)/\Lies v (some ⟨b2,0,none⟩) [uV 7]/\Blk v (gn+3) 145 #[.pointer (some ⟨gn+2,0,none⟩)]:=⟨_,rfl⟩
 obtain ⟨I1,hI1⟩:∃ I:World->Prop,I=fun v=>Below w.heap.size w v/\(∃ se,Rn v (gn+2) (.func (.func 85) #[] #[.pointer (some ⟨gn+3,0,none⟩)]) (.map (some (gn+4))) (gn+1) (.slice none 0 0) se (.slice none 0 0) (.slice none 0 0))/\MpU v (gn+1) 1 knE/\Blk v (gn+3) 145 #[.pointer (some ⟨gn+2,0,none⟩)]:=⟨_,rfl⟩
 obtain ⟨I2,hI2⟩:∃ I:World->Prop,I=fun v=>Below w.heap.size w v/\(∃ se A' c',Rn v (gn+2) (.func (.func 85) #[] #[.pointer (some ⟨gn+3,0,none⟩)]) (.map (some (gn+4))) (gn+1) (.slice none 0 0) se (.slice none 0 0) (.slice A' 1 c')/\Lies v A' [uV 8])/\Blk v (gn+3) 145 #[.pointer (some ⟨gn+2,0,none⟩)]:=⟨_,rfl⟩
 have i0:∀ {v v':World},I0 v->Below v.heap.size v v'->I0 v':=by
  subst hI0;exact fun {v v'} h hb=>⟨h.1.trans (hb.mono h.1.size),h.2.1.below hb h.2.1.lt,h.2.2.1.upd (X:=fun _=>False) (Upd.of_below hb fun _=>False) id,h.2.2.2.1.below hb,h.2.2.2.2.below hb h.2.2.2.2.lt⟩
 have i1:∀ {v v':World},I1 v->Below v.heap.size v v'->I1 v':=by
  subst hI1;exact fun {v v'} h hb=>⟨h.1.trans (hb.mono h.1.size),h.2.1.imp fun se hs=>hs.below hb hs.lt,h.2.2.1.upd (X:=fun _=>False) (Upd.of_below hb fun _=>False) id,h.2.2.2.below hb h.2.2.2.lt⟩
 have HST:=Hi fun (v:World) (hv:Below w7.heap.size w7 v)=>stmts2 hP (gn+2) I0 I1 I2 i0 i1 (fun v h=>by subst hI0;exact h.1) (fun v h=>by subst hI1;exact h.1)
  (fun v k a s n A la cA B lb cB hI hT=>by
   subst hI0;subst hI1;obtain ⟨rfl,rfl,rfl,rfl,rfl,rfl,-,-,-,hLB,-,-,-⟩:=hT.parts;obtain ⟨h1,h2,h3,h4,h5⟩:=hI;refine (stS v 7 b2 h2 h3 V2 V0 [97] V2 h4 0 [] 0 A 0 cA B cB (hLB.below h1)).mono ?_;rintro e v' ⟨rfl,h6,h7,h8⟩;exact ⟨rfl,h1.trans (h8.below (B:=w.heap.size) h1.size fun b hb=>V0),h6,h7,h5.upd h8 V0⟩)
  (fun v k a s n A la cA B lb cB hI hT=>by
   subst hI1;subst hI2;obtain ⟨rfl,rfl,rfl,rfl,rfl,rfl,hP1,-,-,-,-,-,-⟩:=hT.parts;obtain ⟨h1,⟨se,h2⟩,h3,h5⟩:=hI;refine (stO mdY canY shfY v h1 h2 h3 10 [111] 0 A cA B 0 cB hP1).mono ?_;rintro e v' ⟨rfl,⟨A',c',h6,h7⟩,h8⟩;rw [wdY] at h7;exact ⟨rfl,h1.trans (h8.below (B:=w.heap.size) h1.size fun b hb=>V0),⟨se,A',c',h6,h7⟩,h5.upd h8 V0⟩)
  v (by
   subst hI0;exact ⟨hb07.trans (hv.mono hb07.size),HR7.out.below hv HR7.out.lt,HM7.out.upd (X:=fun _=>False) (Upd.of_below hv fun _=>False) id,(hS.below hb07).below hv,HQ7.out.below hv HQ7.out.lt⟩)
 have HI2:=Hi (fun (v:World) (h:I2 v)=>(show Below w.heap.size w v/\(∃ se A' c',Rn v (gn+2) (.func (.func 85) #[] #[.pointer (some ⟨gn+3,0,none⟩)]) (.map (some (gn+4))) (gn+1) (.slice none 0 0) se (.slice none 0 0) (.slice A' 1 c')/\Lies v A' [uV 8])/\Blk v (gn+3) 145 #[.pointer (some ⟨gn+2,0,none⟩)] by subst hI2;exact h));have hQl4:=hQ4.lt;have hRl4:=hR4.lt;obtain ⟨⟨c40,c41,c42,c43,c44,c45,c46⟩,f40,f41,f42,f43,f44,f45,f46⟩:=r4;clear i0 i1 hI0 hI1 hI2 hb07 hP hS hT hw1 hb1 hX1 hw2 hw3 hw4 hw5 hw6 hw7 hb2 hb3 hb4 hb5 hb25 hb15 hu57 hR3 hR4 hR5 hR6 hR7 hQ4 hQ5 hu56 hQ6 hQ7 hX7 hM7 r5 r6 p5 p6;go_enter Tryz.func45,Tryz.ntmps45;go_upto_region 1 with fail
 (try simp only [HGN.out]);rw [HW1.out];go_upto_region 2 with fail
 rw [HW3.out,HW4.out];(try simp only [Nat.add_assoc,Nat.reduceAdd]);obtain ⟨⟨c50,c51,c52,c53,c54,c55,c56⟩,f50,f51,f52,f53,f54,f55,f56⟩:=R5.out;have p5:=P5.out;have g5:=HG5.out;go_upto_region 3 with fail
 rw [HW6.out];clear c40 c41 c42 c43 c44 c45 c46 f40 f41 f42 f43 f44 f45 f46 c50 c51 c52 c53 c54 c55 c56 f50 f51 f52 f53 f54 f55 f56 p4 p5;obtain ⟨⟨c60,c61,c62,c63,c64,c65,c66⟩,f60,f61,f62,f63,f64,f65,f66⟩:=R6.out;have p6:=P6.out;have g6:=HG6.out;go_upto_region 4 with fail
 rw [HW7.out];clear c60 c61 c62 c63 c64 c65 c66 f60 f61 f62 f63 f64 f65 f66 p6;have p7:=HQ7.out.cell 0;simp only [List.getElem?_toArray,List.getElem?_cons_zero] at p7;obtain ⟨⟨e0,e1,e2,e3,e4,e5⟩,z0,z1,z2,z3,z4,z5⟩:=Blk.c6 HX7.out;have g7:=HX7.out.lt;have g8:=HQ7.out.lt;go_wp2_with fail
 refine (show Calls Tryz.prog 86 #[.pointer (some ⟨gn+2,0,none⟩),.slice A 2 cA] w7 _ from HLN.out).mono ?_;rintro e w8 ⟨rfl,hb8⟩;clear e0 e1 e2 e3 e4 e5 z0 z1 z2 z3 z4 z5 p7 g7 g8;have hX8:=HX7.out.below hb8 HX7.out.lt;have hQ8:=HQ7.out.below hb8 HQ7.out.lt;have p8:=hQ8.cell 0;simp only [List.getElem?_toArray,List.getElem?_cons_zero] at p8;obtain ⟨⟨e0,e1,e2,e3,e4,e5⟩,z0,z1,z2,z3,z4,z5⟩:=Blk.c6 hX8;have g7:=hX8.lt;have g8:=hQ8.lt;have HSS:=Hi (HST.out w8 hb8);clear hb8 hX8 hQ8;go_wp2_with fail
 refine (show Calls Tryz.prog 87 #[.pointer (some ⟨gn+2,0,none⟩),.slice A 2 cA] w8 _ from HSS.out).mono ?_;rintro e w9 ⟨rfl,hI9⟩;obtain ⟨h1,⟨se,A',c',h2,h3⟩,h5⟩:=HI2.out w9 hI9;have p9:=h5.cell 0;simp only [List.getElem?_toArray,List.getElem?_cons_zero] at p9;obtain ⟨⟨r0,r1,r2,r3,r4,r5,r6⟩,q0,q1,q2,q3,q4,q5,q6⟩:=Blk.c7 h2;clear e0 e1 e2 e3 e4 e5 z0 z1 z2 z3 z4 z5 p8 g7 g8 hI9;have g9:=h2.lt;have g8:=h5.lt;have H1:=Hi h1;have H3:=Hi h3;clear h1 h2 h3 h5;go_wp2_with fail
 go_ret;exact ⟨⟨A',c',rfl,H3.out⟩,H1.out⟩
theorem textE(w:World)(b2:Nat)(hS:Lies w (some ⟨b2,0,none⟩) [uV 7]) :
  Calls Tryz.prog 42 #[.string ⟨txE.toArray⟩,.slice (some ⟨b2,0,none⟩) 1 1,.slice none 0 0] w fun e w'=>(∃ A c,e = .returned (.tuple #[.slice A 1 c,.int .i64 0,.int .i64 0])/\Lies w' A [uV 8])/\Below w.heap.size w w':=by
 have HF:=Hi (fpE w);have HS:=Hi hS;clear hS;go_enter Tryz.func42,Tryz.ntmps42;go_wp2_with fail
 refine HF.out.mono ?_;rintro e w1 ⟨k,a,sx,n,A,la,cA,B,lb,cB,As,ls,cs,Ap,lp,cp,Ao,lo',co,rfl,hT,hb1⟩;obtain ⟨w2,hw2,hb2,hX2,hs2⟩:=q05 w1 (nB k a sx n A la cA B lb cB);obtain ⟨w3,hw3,hb3,-⟩:=alK w2 #[.slice As ls cs,.slice Ap lp cp,.slice Ao lo' co] 39;have hb13:=hb2.trans (hb3.mono hb2.size);have hX3:=hX2.below hb3 hX2.lt;have HB3:=Hi (hb1.trans (hb13.mono hb1.size));have HO:=Hi (outsE w3 b2 ((HS.out.below hb1).below hb13) k a sx n A la cA B lb cB (hT.below hb13));have HW2:=Hi hw2;have HW3:=Hi hw3;obtain ⟨⟨e0,e1,e2,e3,e4,e5⟩,z0,z1,z2,z3,z4,z5⟩:=Blk.c6 hX3;have hgl:=hX3.lt;unfold OutE at HO;clear hT hb1 hw2 hb2 hX2 hs2 hw3 hb3 hb13 hX3;go_upto_region 2 with fail
 rw [HW2.out,HW3.out];go_wp2_with fail
 refine (show Calls Tryz.prog 45 #[nzA k a sx n A la cA B lb cB,.slice (some ⟨b2,0,none⟩) 1 1,.slice none 0 0] w3 _ from HO.out).mono ?_;rintro e w4 ⟨⟨A',c',rfl,hL⟩,hb4⟩;have HEND:=Hi (HB3.out.trans (hb4.mono HB3.out.size));have HL:=Hi hL;clear hb4 hL;go_wp2_with fail
 go_ret3
 exact ⟨⟨A',c',rfl,HL.out⟩,HEND.out⟩
theorem lives(w:World):Calls Tryz.prog 18 #[] w fun e w'=>e = .returned (.bool true)/\Below w.heap.size w w':=by
 obtain ⟨w1,hw1,hb1,-⟩:=alK w #[.int .u32 7] 22;have hL1:Lies w1 (some ⟨w.heap.size,0,none⟩) [uV 7]:=by rw [<-hw1];exact q07 _ _ [uV 7]
 have HT:=Hi (textE w1 w.heap.size hL1);have HB1:=Hi hb1;have HW1:=Hi hw1;clear hb1 hL1 hw1;go_enter Tryz.func18,Tryz.ntmps18;go_wp2_with fail
 rw [HW1.out];refine (show Calls Tryz.prog 42 #[.string ⟨#[115,101,99,114,101,116,32,97,59,32,111,117,116,32,111,32,61,32,97,32,43,32,49,59]⟩,.slice (some ⟨w.heap.size,0,none⟩) 1 1,.slice none 0 0] w1 _ from HT.out).mono ?_;rintro e w2 ⟨⟨A,c,rfl,hL⟩,hb2⟩;have f1:([uV 8]:List Value)[0]?=some (.int .u32 8):=rfl;obtain ⟨b,o,rfl,hbl,hc1⟩:=hL.at_ f1;have k1:=hc1 _ _ f1;simp only [Nat.add_zero] at k1;have HEND:=Hi (HB1.out.trans (hb2.mono HB1.out.size));clear hL hb2 hc1 f1;go_wp2_with fail
 go_ret;exact ⟨rfl,HEND.out⟩
end
theorem q7t{s:Bs}{kn:Kn}{w w':World}{e:Ending}(h:ExP s kn w e w'):∃ (u:BitVec 32) (v:Nat),e = .returned (.tuple #[uV u,.int .i64 (v:Int)])/\∀ (w2 w3:World) (e':Ending),ExP s kn w2 e' w3->e' = .returned (.tuple #[uV u,.int .i64 (v:Int)]):=by
 obtain ⟨-,(⟨x,t,r,h1,h2,h3,rfl⟩ | ⟨a,er,hbad,rfl⟩)⟩:=h
 ·obtain ⟨u,v,hu⟩:∃ (u:BitVec 32) (v:Nat),ansE kn (embz x) = .tuple #[uV u,.int .i64 (v:Int)]:=by
   unfold ansE;cases canB kn (embz x) with
   | true=>exact ⟨_,0,rfl⟩
   | false=>exact ⟨0,1,rfl⟩
  refine ⟨u,v,by rw [hu],fun w2 w3 e' h'=>?_⟩;obtain ⟨-,(⟨x',t',r',h1',h2',h3',rfl⟩ | ⟨a',er',hbad,rfl⟩)⟩:=h'
  ·obtain rfl:=q8d h2 h2';rw [hu]
  ·exact (q2V h1 h3 h2 hbad).elim
 ·refine ⟨0,er,rfl,fun w2 w3 e' h'=>?_⟩;obtain ⟨-,(⟨x',t',r',h1',h2',h3',rfl⟩ | ⟨a',er',hbad',rfl⟩)⟩:=h'
  ·exact (q2V h1' h3' h2' hbad).elim
  ·rw [q8e hbad hbad'];rfl
theorem walkX(W:World)(s:ByteArray)(names:List Bs)(A:Option Addr)(c:Nat)(words:List (BitVec 32))(A2:Option Addr)(c2:Nat)(hc:names.length<=c)(hcm:c<=maxLen)(hA:100 < names.length->∃ b o,A=some ⟨b,o,none⟩)(hn:∀ s∈names,s.length<=maxLen)(hL:Lies W A (names.map strV))
  (hc2:words.length<=c2) (hcm2:c2<=maxLen) (hA2:100 < words.length->∃ b o,A2=some ⟨b,o,none⟩) (hL2:Lies W A2 (words.map uV)) :
  Calls Tryz.prog 6 #[.string s,.slice A names.length c,.slice A2 words.length c2] W fun e W'=>e = .returned (.bool true)/\Below W.heap.size W W':=by
 obtain ⟨i0,hi,hz0,hz1,hz2⟩:=info_parts infoS';have HI:=Hi hi;have HZ0:=Hi hz0;have HZ1:=Hi hz1;have HZ2:=Hi hz2;have HL:=Hi (lies_take hL 100);have HL2:=Hi hL2;have hl100:(names.take 100).length<=100:=V4;have HNS:=Hi (show ∀ s∈names.take 100,s.length<=maxLen from fun s hs=>hn s (List.mem_of_mem_take hs));have HSH:=Hi fun (w:World) (hb:Below W.heap.size W w)=>short w words A2 c2 hc2 hcm2 hA2 (HL2.out.below hb)
 have hle:names.length<=maxLen:=V0;have HW1:=Hi (show (words.take 100).length<=9223372036854775807 from V4);unfold maxLen at hle hcm;have HLV:=Hi lives;clear hi hz0 hz1 hz2 hL hL2 hn hc2 hcm2 hA2;obtain ⟨ns,hns⟩:∃ ns,names.take 100=ns:=⟨_,rfl⟩;obtain ⟨ws,hws⟩:∃ ws,words.take 100=ws:=⟨_,rfl⟩;rw [hws] at HW1 HSH;by_cases hl:100 < names.length
 ·obtain ⟨b,o,rfl⟩:=hA hl;have hl2:(100:Int) < (names.length:Int):=V0;have hl3:(100:Int)<=(c:Int):=V0;have hx:(100:Nat)=ns.length:=by rw [<-hns];simp;omega
  rw [hns] at HL hl100 HNS;clear hA hns hws;have HE:=Hi fun (w:World) A' c' A3 c3 hA hB=>eexpr s ns ws A' c' A3 c3 hl100 HNS.out HW1.out w hA hB
  have HR:=Hi fun (w:World) A' c' A3 c3 hA hB=>rexp s ns ws A' c' A3 c3 hl100 HW1.out w hA hB
  go_enter Tryz.func6,Tryz.ntmps6;have hA0:Below W.heap.size W (W.alloc (.cells #[] 9)):=q25 (Below.refl _ _) _;have HLA:=Hi (HL.out.below hA0)
  (go_wp2_with (at_builtin;refine q0M rfl (.tmp 18) (.tmp 19) 24 rfl 9 i0 (.string ⟨#[]⟩) 1 16 Tryz.underlying24 HI.out HZ0.out HZ1.out HZ2.out rfl V2 _ rfl (some ⟨b,o,none⟩) ns.length c (ns.map strV) rfl V19 HLA.out V8 V0 ?_;intro A' c' w1 h1 h2 h3 h4;have HB1:=Hi (show Below W.heap.size W w1 from hA0.trans (h4.mono hA0.size));have HN1:=Hi h3.lies;clear h1 h2 h3 h4))
  refine (HSH.out w1 HB1.out).mono ?_;rintro e w2 ⟨A3,c3,hc3,hc4,rfl,hL3,hb2⟩;have HB2:=Hi (HB1.out.trans (hb2.mono HB1.out.size));have HEX:=Hi (HE.out w2 A' c' A3 c3 (HN1.out.below hb2) hL3);clear hb2 hL3;go_wp2_with fail
  refine HEX.out.mono ?_;rintro e w3 hp;have HB3:=Hi (HB2.out.trans (hp.1.mono HB2.out.size));obtain ⟨u,v,rfl,hsm⟩:=q7t hp;have HSM:=Hi hsm;clear hp hsm;go_wp2_with fail
  refine (HSH.out w3 HB3.out).mono ?_;rintro e w4 ⟨A4,c4,hc5,hc6,rfl,hL4,hb4⟩;have HB4:=Hi (HB3.out.trans (hb4.mono HB3.out.size));have HRX:=Hi (HR.out w4 (some ⟨b,o,none⟩) c A4 c4 (HL.out.below HB4.out) hL4);exact V2E
 ·have hl2:¬ (100:Int) < (names.length:Int):=by omega
  obtain rfl:names=ns:=by rw [<-hns];exact (take_all V0).symm
  rw [hns] at HL hl100 HNS;clear hA hns hws;have HE:=Hi fun (w:World) A' c' A3 c3 hA hB=>eexpr s names ws A' c' A3 c3 hl100 HNS.out HW1.out w hA hB
  have HR:=Hi fun (w:World) A' c' A3 c3 hA hB=>rexp s names ws A' c' A3 c3 hl100 HW1.out w hA hB
  go_enter Tryz.func6,Tryz.ntmps6;have hA0:Below W.heap.size W (W.alloc (.cells #[] 9)):=q25 (Below.refl _ _) _;have HLA:=Hi (HL.out.below hA0)
  (go_wp2_with (at_builtin;refine q0M rfl (.tmp 18) (.tmp 19) 24 rfl 9 i0 (.string ⟨#[]⟩) 1 16 Tryz.underlying24 HI.out HZ0.out HZ1.out HZ2.out rfl V2 _ rfl A names.length c (names.map strV) rfl V19 HLA.out V8 V0 ?_;intro A' c' w1 h1 h2 h3 h4;have HB1:=Hi (show Below W.heap.size W w1 from hA0.trans (h4.mono hA0.size));have HN1:=Hi h3.lies;clear h1 h2 h3 h4))
  refine (HSH.out w1 HB1.out).mono ?_;rintro e w2 ⟨A3,c3,hc3,hc4,rfl,hL3,hb2⟩;have HB2:=Hi (HB1.out.trans (hb2.mono HB1.out.size));have HEX:=Hi (HE.out w2 A' c' A3 c3 (HN1.out.below hb2) hL3);clear hb2 hL3;go_wp2_with fail
  refine HEX.out.mono ?_;rintro e w3 hp;have HB3:=Hi (HB2.out.trans (hp.1.mono HB2.out.size));obtain ⟨u,v,rfl,hsm⟩:=q7t hp;have HSM:=Hi hsm;clear hp hsm;go_wp2_with fail
  refine (HSH.out w3 HB3.out).mono ?_;rintro e w4 ⟨A4,c4,hc5,hc6,rfl,hL4,hb4⟩;have HB4:=Hi (HB3.out.trans (hb4.mono HB3.out.size));have HRX:=Hi (HR.out w4 A c A4 c4 (HL.out.below HB4.out) hL4);exact V2E
theorem q3e{w:World}{A:Option Addr}{α:Type}{f:α->Value}{xs:List α}(h:Lies w A (xs.map f))(hl:100 < xs.length):∃ b o,A=some ⟨b,o,none⟩:=by
 have h0:0 < (xs.map f).length:=by rw [List.length_map];omega
 obtain ⟨b,o,e,-⟩:=h.at_ (List.getElem?_eq_getElem h0);exact ⟨b,o,e⟩
section
variable {H : Type} {enc : TypeId × Value -> H} {P : Program} {w : World} {base : Nat} {sp : Nat -> Bool} {held : Bool}
theorem strs_arg{t e:TypeId}{v:Value}{d:DataW H}{ps:List MemPlace}(ht:P.underlying t=some (.slice e))(he:P.underlying e=some .string)(hc:P.cellsOf e = 1)(hv:∃ a l c,v = .slice a l c)(h:DataW.Trod enc P w base sp held t v d ps) :
  ∃ (names:List Bs) (A:Option Addr) (c:Nat),v = .slice A names.length c/\names.length<=c/\c<=maxLen/\(100 < names.length->∃ b o,A=some ⟨b,o,none⟩)/\(∀ s∈names,s.length<=maxLen)/\Lies w A (names.map strV):=by
 obtain ⟨a0,l0,c0,rfl⟩:=hv;obtain ⟨fuel,hf⟩:=h;rcases open_strings ht he hc hf with ⟨hcs,hx⟩ | ⟨a,len,cap,ss,hcs,-,hl,hm,hz,hx,hcell,hsz⟩
 ·simp [Value.cells] at hcs;obtain ⟨rfl,rfl,rfl⟩:=hcs;exact ⟨[],none,0,rfl,Nat.le_refl _,V2,fun h=>Vc,fun s hs=>(by cases hs),Lies.nil _ _⟩
 ·simp [Value.cells] at hcs;obtain ⟨rfl,rfl,rfl⟩:=hcs;have hle:l0<=ss.length:=by rw [hz];split <;> omega
  have hlen:((ss.take l0).map fun s:ByteArray=>s.data.toList).length=l0:=V4;have hL:Lies w (some a) (((ss.take l0).map fun s:ByteArray=>s.data.toList).map strV):=fun j u hj=>⟨a,rfl,by
   rw [List.map_map,List.getElem?_map,Option.map_eq_some_iff] at hj;obtain ⟨s,hs,rfl⟩:=hj;rw [List.getElem?_take] at hs;by_cases hj:j < l0
   ·rw [if_pos hj] at hs;have hc:=hcell j V0;rw [List.getD_eq_getElem?_getD,hs] at hc;exact hc
   ·rw [if_neg hj] at hs;cases hs⟩
  refine ⟨_,some a,c0,by rw [hlen],by rw [hlen];exact hl,hm,q3e hL,fun s hs=>?_,hL⟩;obtain ⟨b,hb,rfl⟩:=List.mem_map.1 hs;have:=hsz b (List.mem_of_mem_take hb);rw [Array.length_toList];exact this
theorem words_arg{t e:TypeId}{v:Value}{d:DataW H}{ps:List MemPlace}(ht:P.underlying t=some (.slice e))(he:P.underlying e=some (.int .u32))(hc:P.cellsOf e = 1)(hv:∃ a l c,v = .slice a l c)(h:DataW.Trod enc P w base sp held t v d ps) :
  ∃ (words:List (BitVec 32)) (A:Option Addr) (c:Nat),v = .slice A words.length c/\words.length<=c/\c<=maxLen/\(100 < words.length->∃ b o,A=some ⟨b,o,none⟩)/\Lies w A (words.map uV):=by
 obtain ⟨a0,l0,c0,rfl⟩:=hv;obtain ⟨fuel,hf⟩:=h;rcases open_ints ht he hc hf with ⟨hcs,hx⟩ | ⟨a,len,cap,zs,hcs,-,hl,hm,hz,hx,hcell,hwf⟩
 ·simp [Value.cells] at hcs;obtain ⟨rfl,rfl,rfl⟩:=hcs;exact ⟨[],none,0,rfl,Nat.le_refl _,V2,fun h=>Vc,Lies.nil _ _⟩
 ·simp [Value.cells] at hcs;obtain ⟨rfl,rfl,rfl⟩:=hcs;have hle:l0<=zs.length:=by rw [hz];split <;> omega
  have hlen:((zs.take l0).map (BitVec.ofInt 32)).length=l0:=V4;have hL:Lies w (some a) (((zs.take l0).map (BitVec.ofInt 32)).map uV):=fun j u hj=>⟨a,rfl,by
   rw [List.map_map,List.getElem?_map,Option.map_eq_some_iff] at hj;obtain ⟨z,hs,rfl⟩:=hj;rw [List.getElem?_take] at hs;by_cases hj:j < l0
   ·rw [if_pos hj] at hs;have hc:=hcell j V0;rw [List.getD_eq_getElem?_getD,hs] at hc;have hw:=hwf z (List.mem_of_getElem? hs);have hz2:((BitVec.ofInt 32 z).toNat:Int)=z:=by
     simp [Lit.wf,show IntKind.u32.min = 0 from rfl,show IntKind.u32.max = 4294967295 from rfl] at hw;rw [BitVec.toNat_ofInt];omega
    show w.cell? (a.add j)=some (.int .u32 ((BitVec.ofInt 32 z).toNat:Int));rw [hz2];exact hc
   ·rw [if_neg hj] at hs;cases hs⟩
  exact ⟨_,some a,c0,by rw [hlen],by rw [hlen];exact hl,hm,q3e hL,hL⟩
end
theorem walkX'(W:World)(s:ByteArray)(names:List Bs)(A:Option Addr)(c:Nat)(hc:names.length<=c)(hcm:c<=maxLen)(hA:100 < names.length->∃ b o,A=some ⟨b,o,none⟩)(hn:∀ s∈names,s.length<=maxLen)(hL:Lies W A (names.map strV))(words:List (BitVec 32))(A2:Option Addr)(c2:Nat)
  (hc2:words.length<=c2) (hcm2:c2<=maxLen) (hA2:100 < words.length->∃ b o,A2=some ⟨b,o,none⟩) (hL2:Lies W A2 (words.map uV)) :
  Calls Tryz.prog 6 #[.string s,.slice A names.length c,.slice A2 words.length c2] W fun e W'=>e = .returned (.bool true)/\Below W.heap.size W W':=walkX W s names A c words A2 c2 hc hcm hA hn hL hc2 hcm2 hA2 hL2
end Ev
namespace Nm
open Go.ChangeShapes Go.WideShapes Go.ChangeAt Go.RowKit
theorem witRow{H:Type}{enc:TypeId×Value->H}{C:Checked}{os:Os}{f:FuncId}{fn:Func}{s:OpenSpec}{conds:List PathCond}{apart:Bool}{laid:List (String×DataW Unit)}(modest:Bool)(w0:World)(args:Array Value)(hos:w0.os=os)
  (hsh:(w0.forCall (fun _ _=>0) ⟨#[],args,[]⟩).Shaped C.prog)
  (hok:Input.okWideB C.prog (w0.forCall (fun _ _=>0) ⟨#[],args,[]⟩) f ⟨#[],args,[]⟩=true)
  (hrow:s.preRow enc C.prog fn conds apart laid (w0.forCall (fun _ _=>0) ⟨#[],args,[]⟩).memory args) :
  ∃ (w:World) (tape:Tape) (i:Input),w.os=os/\(w.forCall tape i).Shaped C.prog/\i.vars=[]/\Input.okWide C.prog (w.forCall tape i) .any w.heap.size f i /\
   s.preRow enc C.prog fn conds apart laid (w.forCall tape i).memory i.args/\({ modest:=modest }:Assume).holds C.prog (lone (Frame.enter C.prog f i.args .normal) [] (w.forCall tape i)):=
 ⟨w0,fun _ _=>0,⟨#[],args,[]⟩,hos,hsh,(Input.okWide_of_okWideB (base:=0) hok).1,(Input.okWide_of_okWideB hok).2,hrow,by
  simp only [Assume.holds];exact ⟨V3,V3,fun _=>Modest.zero,V3,V3⟩⟩
end Nm
end Go.Proofs.YtcgibpdjfgjldaaGreatDoor
