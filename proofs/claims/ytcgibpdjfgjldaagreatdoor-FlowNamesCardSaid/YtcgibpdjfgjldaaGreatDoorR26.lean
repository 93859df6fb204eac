/- DERIVED. PaRok, PaTp, NmBd, NmPr, NmRc. By an AI agent. -/
import Derived.Test.YtcgibpdjfgjldaaGreatDoorR25
import Derived.Test.YtcgibpdjfgjldaaGreatDoorR17
set_option maxRecDepth 100000
set_option maxHeartbeats 8000000
set_option linter.unusedVariables false
set_option linter.unusedSimpArgs false
namespace Go.Proofs.YtcgibpdjfgjldaaGreatDoor
namespace Pa
open Go Go.ChangeShapes Go.WideShapes Go.ChangeAt Go.RowKit Lx Args
section
attribute [local go_sem] bH bI bJ
theorem q8D{w:World}{g:Nat}{t:TypeId}{x:Value}(h:Aa w g t #[x]){b o:Nat}{v:Value}(hc:w.cell? ⟨b,o+1,none⟩=some v):b≠g:=by
 rintro rfl;rw [h.cell (o+1)] at hc;simp at hc
theorem PS.node{w w':World}{bp d g:Nat}{t:Tk}{r:List Tk}{ty:TypeId}{k a:Int}{s:ByteArray}{n:Int}{A B:Option Addr}{la cA lb cB:Nat}(h:PS w bp (t :: r) d)(hb:Aa w g ty #[.int .i64 k,.string s,.int .u32 n,.int .i64 a,.slice A la cA,.slice B lb cB])(hu:Upd (fun b=>b=g) w w')(hg:bp≠g):PS w' bp (t :: r) d:=by
 obtain ⟨b,o,c,hn,h1,h2,h3,h4⟩:=h;have hne:b≠g:=by
  rintro rfl;have e0:=h2 0 _ (show ((t :: r).flatMap tkC)[0]?=some (.int .i64 (t.k:Int)) from rfl);have e1:=h2 1 _ (show ((t :: r).flatMap tkC)[1]?=some (.string ⟨t.s.toArray⟩) from rfl);have e2:=h2 2 _ (show ((t :: r).flatMap tkC)[2]?=some (.int .i64 (t.at_:Int)) from rfl);obtain ⟨a0,q0,e0⟩:=e0;obtain ⟨a1,q1,e1⟩:=e1;obtain ⟨a2,q2,e2⟩:=e2;cases q0;cases q1;cases q2;rw [Args.add_plain,hb.cell] at e0 e1 e2
  match o with
  | 0=>simp at e2
  | 1=>simp at e0
  | 2=>simp at e0
  | 3=>simp at e1
  | 4=>simp at e0
  | 5=>simp at e0
  | o+6=>simp at e0
 exact ⟨b,o,c,hn,h1.upd hu hg,hu.lies h2 fun b' o' e _ hx=>by cases e;exact hne hx,h3,h4⟩
theorem q2V(s:ByteArray)(w:World)(h:(af s.data.toList).er = 0) :
  Calls Tryz.prog 67 #[.string s,.func (.func 96) #[] #[]] w (RdP Al s w):=by
 obtain ⟨w0,hw0,hb0,hs0,hN,hA,hE⟩:=boxes w;have hwd:=pwords s w0;have hgt:=q3B h;unfold PWordsP at hwd;rw [h] at hwd;obtain ⟨L,hL⟩:∃ L,(af s.data.toList).l=L:=⟨_,rfl⟩;obtain ⟨at0,ha⟩:∃ a,(af s.data.toList).at_=a:=⟨_,rfl⟩;rw [hL,ha] at hwd;rw [hL] at hgt;have HWD:=Hi hwd;have HER:=Hi h;have HLL:=Hi hL;have HGT:=Hi hgt;have HB0:=Hi hb0;have HN:=Hi hN;have HA:=Hi hA;have HE:=Hi hE;have HW:=Hi hw0;obtain ⟨g,hg⟩:∃ g,w.heap.size=g:=⟨_,rfl⟩;rw [hg] at HN HA HE;have hmf:∀ (fn:Fn) (first cap:Array Value) (w:World),(Instr.makeFunc fn first cap).run Tryz.prog w = .ok (.func fn first cap) w:=fun _ _ _ _=>rfl
 clear hb0 hN hA hE hw0 h hwd ha hL hgt
 go_enter_defers Tryz.func67,Tryz.ntmps67
 go_wp2_with fail
 simp only [Nat.add_assoc,Nat.reduceAdd];rw [HW.out];refine HWD.out.mono ?_;rintro e w1 ⟨A,c,rfl,hL,hb1,hc1,hc2⟩;have hN1:=HN.out.below hb1 HN.out.lt;have hA1:=HA.out.below hb1 HA.out.lt;have hE1:=HE.out.below hb1 HE.out.lt;have hEl:=hE1.lt;obtain ⟨⟨e0,e1,e2,e3,e4,e5⟩,z0,z1,z2,z3,z4,z5⟩:=Aa.c6 hN1;have c1:w1.cell? ⟨g+1,0,none⟩=some (.int .i64 0):=hA1.cell 0;have c2:w1.cell? ⟨g+2,0,none⟩=some (.int .i64 0):=hE1.cell 0;have f1:=hA1.frozen 0;have f2:=hE1.frozen 0;have hb01:Below w.heap.size w w1:=HB0.out.trans (hb1.mono HB0.out.size);have hg01:g≠g+1:=V0;have hg02:g≠g+2:=V0;have hg12:g+1≠g+2:=V0;obtain ⟨t0,r0,hL0⟩:=HGT.out.cons;obtain ⟨b,o,rfl,hbl,hcc⟩:=hL.at_ (j:=0) (u:=.int .i64 (t0.k:Int)) (by rw [hL0];rfl);have HLI:=Hi hL;have HN1:=Hi hN1;have HA1:=Hi hA1;have HE1:=Hi hE1;have HB1:=Hi hb01;have hcc1:=hcc 1 (.string ⟨t0.s.toArray⟩) (by rw [hL0];rfl);clear hN1 hA1 hE1 hL hb01 hL0 hcc hb1;go_wp2_with fail
 obtain ⟨w2,hw2⟩:∃ w2,((w1.setCell ⟨g+1,0,none⟩ (.int .i64 (at0:Int))).setCell ⟨g+2,0,none⟩ (.int .i64 0)).alloc (.cells #[.slice (some ⟨b,o,none⟩) L.length c,.int .i64 0] 162)=w2:=⟨_,rfl⟩;have hs12:((w1.setCell ⟨g+1,0,none⟩ (.int .i64 (at0:Int))).setCell ⟨g+2,0,none⟩ (.int .i64 0)).heap.size=w1.heap.size:=V3;have hu12:Upd (fun k=>k=g+1\/k=g+2) w1 w2:=by rw [<-hw2];exact (((Upd.refl (fun k=>k=g+1\/k=g+2) w1).setCell (p:=⟨g+1,0,none⟩) (fun _=>.inl rfl) _).setCell (p:=⟨g+2,0,none⟩) (fun _=>.inr rfl) _).alloc _
 have hN2:Aa w2 g 26 #[.int .i64 0,.string ⟨#[]⟩,.int .u32 0,.int .i64 0,.slice none 0 0,.slice none 0 0]:=HN1.out.upd hu12 V0;have hA2:Aa w2 (g+1) 3 #[.int .i64 (at0:Int)]:=by rw [<-hw2];exact ((HA1.out.set 0 _).far (p:=⟨g+2,0,none⟩) hg12 _).alloc _
 have hE2:Aa w2 (g+2) 27 #[.int .i64 0]:=by rw [<-hw2];exact ((HE1.out.far (p:=⟨g+1,0,none⟩) (Ne.symm hg12) _).set 0 _).alloc _
 have hp2:PS w2 w1.heap.size L 0:=by
  refine ⟨b,o,c,hbl,?_,hu12.lies HLI.out fun b' o' e _ hx=>?_,hc1,hc2⟩
  ·rw [<-hw2,<-hs12];exact Aa.new _ _ _
  ·cases e;rcases hx with hx | hx
   ·exact q8D HA1.out hcc1 hx
   ·exact q8D HE1.out hcc1 hx
 have hu2:Upd (fun k=>g<=k) w w2:=(Upd.of_below HB1.out _).trans (hu12.mono fun k hk=>V0);have Ar:=Hi hp2;have HN2:=Hi hN2;have HA2:=Hi hA2;have HE2:=Hi hE2;have Ai:=Hi hu2;rw [hw2];clear hw2 hu12 hp2 hN2 hA2 hE2 hu2 e0 e1 e2 e3 e4 e5 z0 z1 z2 z3 z4 z5 c1 c2 f1 f2 hs12;refine (q5D w2 w1.heap.size L Ar.out HGT.out).mono ?_;rintro e w3 (⟨k,a,sx,n,A,la,cA,B,lb,cB,x,r,rfl,hT,hR,hP,hG,hr,hU⟩ | ⟨a,er,rfl,hR,hU⟩);rotate_left
 ·refine leaves_cons (f:=100) (args:=#[.pointer (some ⟨g,0,none⟩),.pointer (some ⟨g+1,0,none⟩),.pointer (some ⟨g+2,0,none⟩)]) V3 VR ?_;refine (catch_wrong g a er w3 (HN2.out.upd hU V0) (HA2.out.upd hU V0) (HE2.out.upd hU V0)).mono ?_;rintro e u' w4 ⟨rfl,rfl,hN4,hA4,hE4,hU4⟩;have aF:Upd (fun k=>g<=k) w w4:=(Ai.out.trans (hU.mono fun k hk=>V0)).trans hU4;exact ⟨_,res3 hN4 rfl hA4 hE4 _ rfl rfl rfl,.inr ⟨a,er,rfl,.inr ⟨HER.out,.inl (by rw [HLL.out];exact hR)⟩,aF.below (Nat.le_refl _) fun k hk=>V0⟩⟩
 obtain ⟨t,r',rfl⟩:=hG.cons;have h2g:g+2 < w2.heap.size:=HE2.out.lt;have hN3:=HN2.out.upd hU (show ¬ g=w1.heap.size from V0);have hA3:=HA2.out.upd hU (show ¬ g+1=w1.heap.size from V0);have hE3:=HE2.out.upd hU (show ¬ g+2=w1.heap.size from V0);obtain ⟨⟨e0,e1,e2,e3,e4,e5⟩,z0,z1,z2,z3,z4,z5⟩:=Aa.c6 hN3;obtain ⟨w4,hw4⟩:∃ w4,az w3 g (.int .i64 (k:Int)) (.string ⟨sx.toArray⟩) (.int .u32 (n:Int)) (.int .i64 (a:Int)) (.slice A la cA) (.slice B lb cB)=w4:=⟨_,rfl⟩;have aF:Upd (fun b=>b=g) w3 w4:=by rw [<-hw4];exact q09 (X:=fun b=>b=g) (Upd.refl _ _) (fun _=>rfl) _ _ _ _ _ _
 have hN4:Aa w4 g 26 #[.int .i64 (k:Int),.string ⟨sx.toArray⟩,.int .u32 (n:Int),.int .i64 (a:Int),.slice A la cA,.slice B lb cB]:=by rw [<-hw4];exact Aa.az hN3 _ _ _ _ _ _
 have hp4:PS w4 w1.heap.size (t :: r') 0:=PS.node hP hN3 aF V0;have HT4:=Hi (Ak.far hT aF fun b hb=>V0);have AO:=Hi (show Upd (fun k=>g<=k) w w4 from (Ai.out.trans (hU.mono fun k hk=>V0)).trans (aF.mono fun k hk=>V0));have HN4:=Hi hN4;have HA4:=Hi (hA3.upd aF V0);have HE4:=Hi (hE3.upd aF V0);have HR3:=Hi hR;have HP4:=Hi hp4;have HNX:=Hi (next w4 w1.heap.size 0 t r' hp4);simp only [az] at hw4;have HW4:=Hi hw4;clear hw4 hN3 hA3 hE3 aF hN4 hp4 hT hR hP hG hU;go_wp2_with fail
 rw [HW4.out];refine HNX.out.mono ?_;rintro e w5 ⟨rfl,hb5⟩;clear e0 e1 e2 e3 e4 e5 z0 z1 z2 z3 z4 z5;have hN5:=HN4.out.below hb5 HN4.out.lt;have hA5:=HA4.out.below hb5 HA4.out.lt;have hE5:=HE4.out.below hb5 HE4.out.lt;have HT5:=Hi (Ak.far HT4.out (Upd.of_below hb5 fun _=>False) (fun _ h=>h.elim));have AR:=Hi (AO.out.trans (Upd.of_below hb5 _));by_cases hk:t.k = 0
 ·have hq:((t.k:Int) != 0)=false:=by simp;omega
  obtain ⟨⟨e0,e1,e2,e3,e4,e5⟩,z0,z1,z2,z3,z4,z5⟩:=Aa.c6 hN5;have c1:w5.cell? ⟨g+1,0,none⟩=some (.int .i64 (at0:Int)):=hA5.cell 0;have c2:w5.cell? ⟨g+2,0,none⟩=some (.int .i64 0):=hE5.cell 0;have f1:=hA5.frozen 0;have f2:=hE5.frozen 0;have hN6:=((Aa.az hN5 (.int .i64 (k:Int)) (.string ⟨sx.toArray⟩) (.int .u32 (n:Int)) (.int .i64 (a:Int)) (.slice A la cA) (.slice B lb cB)).far (p:=⟨g+1,0,none⟩) hg01 (.int .i64 0)).far (p:=⟨g+2,0,none⟩) hg02 (.int .i64 0);have hA6:Aa _ (g+1) 3 #[.int .i64 0]:=((q0u hA5 (Ne.symm hg01) (.int .i64 (k:Int)) (.string ⟨sx.toArray⟩) (.int .u32 (n:Int)) (.int .i64 (a:Int)) (.slice A la cA) (.slice B lb cB)).set 0 (.int .i64 0)).far (p:=⟨g+2,0,none⟩) hg12 (.int .i64 0);have hE6:Aa _ (g+2) 27 #[.int .i64 0]:=((q0u hE5 (Ne.symm hg02) (.int .i64 (k:Int)) (.string ⟨sx.toArray⟩) (.int .u32 (n:Int)) (.int .i64 (a:Int)) (.slice A la cA) (.slice B lb cB)).far (p:=⟨g+1,0,none⟩) (Ne.symm hg12) (.int .i64 0)).set 0 (.int .i64 0);have bX:Upd (fun k=>g<=k/\k<=g+2) w5 _:=((q09 (X:=fun k=>g<=k/\k<=g+2) (Upd.refl _ w5) (fun _=>⟨Nat.le_refl g,V0⟩) (.int .i64 (k:Int)) (.string ⟨sx.toArray⟩) (.int .u32 (n:Int)) (.int .i64 (a:Int)) (.slice A la cA) (.slice B lb cB)).setCell (p:=⟨g+1,0,none⟩) (fun _=>⟨by show g<=g+1;omega,by show g+1<=g+2;omega⟩) (.int .i64 0)).setCell (p:=⟨g+2,0,none⟩) (fun _=>⟨by show g<=g+2;omega,Nat.le_refl _⟩) (.int .i64 0);have Ac:=Hi (show RdP Al s w (.returned (.tuple #[.agg #[.int .i64 (k:Int),.string ⟨sx.toArray⟩,.int .u32 (n:Int),.int .i64 (a:Int),.slice A la cA,.slice B lb cB],.int .i64 0,.int .i64 0])) _ from
   .inl ⟨k,a,sx,n,A,la,cA,B,lb,cB,x,t,r',rfl,HER.out,by rw [HLL.out];exact HR3.out,hk,(Ak.far HT5.out bX fun b hb=>V0).up V0,(AR.out.trans (bX.mono fun k hk=>hk.1)).below (Nat.le_refl _) fun k hk=>V0⟩)
  have HN6:=Hi hN6;have HA6:=Hi hA6;have HE6:=Hi hE6;clear hN5 hA5 hE5 hb5 hN6 hA6 hE6 bX;go_wp2_with fail
  refine leaves_cons (f:=100) (args:=#[.pointer (some ⟨g,0,none⟩),.pointer (some ⟨g+1,0,none⟩),.pointer (some ⟨g+2,0,none⟩)]) V3 VR ?_;refine (catch_idle ⟨g,0,none⟩ ⟨g+1,0,none⟩ ⟨g+2,0,none⟩ _).mono ?_;rintro e u' w7 ⟨rfl,rfl,rfl⟩;exact ⟨_,res3 HN6.out rfl HA6.out HE6.out _ rfl rfl rfl,Ac.out⟩
 ·have hq:((t.k:Int) != 0)=true:=by simp;omega
  have HHR:=Hi (here w5 w1.heap.size 0 t r' 100 (HP4.out.below hb5));have HN5:=Hi hN5;have HA5:=Hi hA5;have HE5:=Hi hE5;clear hN5 hA5 hE5 hb5;go_wp2_with fail
  refine HHR.out.mono ?_;rintro e w6 ⟨rfl,hb6⟩;have HB6:=Hi hb6;clear hb6;go_wp2_with fail
  refine leaves_cons (f:=100) (args:=#[.pointer (some ⟨g,0,none⟩),.pointer (some ⟨g+1,0,none⟩),.pointer (some ⟨g+2,0,none⟩)]) V3 VR ?_;refine (catch_wrong g t.at_ 100 w6 (HN5.out.below HB6.out HN5.out.lt) (HA5.out.below HB6.out HA5.out.lt) (HE5.out.below HB6.out HE5.out.lt)).mono ?_;rintro e u' w7 ⟨rfl,rfl,hN7,hA7,hE7,hU7⟩;have hu7:Upd (fun k=>g<=k) w w7:=(AR.out.trans (Upd.of_below HB6.out _)).trans hU7;exact ⟨_,res3 hN7 rfl hA7 hE7 _ rfl rfl rfl,.inr ⟨t.at_,100,rfl,.inr ⟨HER.out,.inr ⟨_,t,r',by rw [HLL.out];exact HR3.out,hk,rfl,rfl⟩⟩,hu7.below (Nat.le_refl _) fun k hk=>V0⟩⟩
end
section
attribute [local go_sem] bH bI bJ
theorem q1P{fn:Func}{p u v:Tmp}(h:fn.results = #[.cell p 26,.tmp u,.tmp v])(tmps:Array Value)(W:World){g:Nat}{t:TypeId}{cs:Array Value}(hp:tmps.getD p undef = .pointer (some ⟨g,0,none⟩))(hg:Aa W g t cs)(hs:some 6=some cs.size){x y:Value}(hx:tmps.getD u undef=x)(hy:tmps.getD v undef=y) :
  (results fn tmps).run Tryz.prog W = .ok (.tuple #[.agg cs,x,y]) W:=by
 subst hx;subst hy;have hp':tmps[p]?.getD undef = .pointer (some ⟨g,0,none⟩):=VQ;simp [results,h,hp',asAddr,run_loadVar_row W g t 26 cs (0,0) _ hg Tryz.underlying26 rfl (szNd.trans hs)]
theorem q6H(s:ByteArray)(w:World):Calls Tryz.prog 63 #[.string s] w (RdP Al s w):=by
 have hrd:∀ w,Calls Tryz.prog 67 #[.string s,.func (.func 96) #[] #[]] w (RdP Al s w):=fun w=>by
  by_cases h:(af s.data.toList).er = 0
  ·exact q2V s w h
  ·exact q2q s w h
 obtain ⟨w0,hw0,hb0,hB⟩:=aS w #[.int .i64 0,.string ⟨#[]⟩,.int .u32 0,.int .i64 0,.slice none 0 0,.slice none 0 0] 26;have HR:=Hi (hrd w0);have HB0:=Hi hb0;have HB:=Hi hB;have HW:=Hi hw0;clear hb0 hw0 hB hrd;go_enter Tryz.func63,Tryz.ntmps63;go_wp2_with fail
 rw [HW.out];refine HR.out.mono ?_;rintro e w1 (⟨k,a,sx,n,A,la,cA,B,lb,cB,x,t,r,rfl,h1,h2,h3,hT,hb⟩ | ⟨a,er,rfl,hbad,hb⟩)
 ·have hX:=HB.out.below hb HB.out.lt;have hlt:=hX.lt;have hlb:=HB.out.lt;obtain ⟨⟨e0,e1,e2,e3,e4,e5⟩,z0,z1,z2,z3,z4,z5⟩:=Aa.c6 hX;have hN:=Aa.az hX (.int .i64 (k:Int)) (.string ⟨sx.toArray⟩) (.int .u32 (n:Int)) (.int .i64 (a:Int)) (.slice A la cA) (.slice B lb cB);have hu:Upd (fun b=>b=w.heap.size) w1 _:=q09 (X:=fun b=>b=w.heap.size) (Upd.refl _ w1) (fun _=>rfl) (.int .i64 (k:Int)) (.string ⟨sx.toArray⟩) (.int .u32 (n:Int)) (.int .i64 (a:Int)) (.slice A la cA) (.slice B lb cB);have Ac:=Hi (show RdP Al s w (.returned (.tuple #[.agg #[.int .i64 (k:Int),.string ⟨sx.toArray⟩,.int .u32 (n:Int),.int .i64 (a:Int),.slice A la cA,.slice B lb cB],.int .i64 0,.int .i64 0])) _ from
   .inl ⟨k,a,sx,n,A,la,cA,B,lb,cB,x,t,r,rfl,h1,h2,h3,(Ak.far hT hu fun b hb=>V0).up V0,((Upd.of_below (HB0.out.trans (hb.mono HB0.out.size)) (fun b=>b=w.heap.size)).trans hu).below (Nat.le_refl _) fun k hk=>V0⟩)
  have HN:=Hi hN;clear hX hN hu hT hb h2;go_wp2_with fail
  exact bodyPost_ret (v:=.tuple #[.agg #[.int .i64 (k:Int),.string ⟨sx.toArray⟩,.int .u32 (n:Int),.int .i64 (a:Int),.slice A la cA,.slice B lb cB],.int .i64 0,.int .i64 0]) (q1P rfl _ _ rfl HN.out rfl rfl rfl) rfl Ac.out
 ·have hX:=HB.out.below hb HB.out.lt;obtain ⟨⟨e0,e1,e2,e3,e4,e5⟩,z0,z1,z2,z3,z4,z5⟩:=Aa.c6 hX;have hN:=Aa.az hX (.int .i64 0) (.string ⟨#[]⟩) (.int .u32 0) (.int .i64 0) (.slice none 0 0) (.slice none 0 0);have hu:Upd (fun b=>b=w.heap.size) w1 _:=q09 (X:=fun b=>b=w.heap.size) (Upd.refl _ w1) (fun _=>rfl) (.int .i64 0) (.string ⟨#[]⟩) (.int .u32 0) (.int .i64 0) (.slice none 0 0) (.slice none 0 0);have Ac:=Hi (show RdP Al s w (.returned (.tuple #[.agg #[.int .i64 0,.string ⟨#[]⟩,.int .u32 0,.int .i64 0,.slice none 0 0,.slice none 0 0],.int .i64 (a:Int),.int .i64 (er:Int)])) _ from .inr ⟨a,er,rfl,hbad,((Upd.of_below (HB0.out.trans (hb.mono HB0.out.size)) (fun b=>b=w.heap.size)).trans hu).below (Nat.le_refl _) fun k hk=>V0⟩);have HN:=Hi hN;clear hX hN hu hb hbad;go_wp2_with fail
  exact bodyPost_ret (v:=.tuple #[.agg #[.int .i64 0,.string ⟨#[]⟩,.int .u32 0,.int .i64 0,.slice none 0 0,.slice none 0 0],.int .i64 (a:Int),.int .i64 (er:Int)]) (q1P rfl _ _ rfl HN.out rfl rfl rfl) rfl Ac.out
end
end Pa
namespace Nm
open Go Lx Pa Sh
theorem q6I(base:Nat):∀ (l:List UInt8) (n m:Nat),n<=4294967296->Num.nrun base l n=some m->m<=4294967296
 | [],n,m,h,e=>by
  unfold Num.nrun at e;cases e;exact h
 | c :: l,n,m,h,e=>by
  unfold Num.nrun at e;split at e
  ·exact q6I base l _ m (Nat.min_le_right ..) e
  ·cases e
theorem q6J(b:Bs):(ag b).1 < 4294967296:=by
 unfold ag Num.numR;split
 ·decide
 ·split
  ·decide
  ·next h=>
   have:=q6I _ _ _ _ V2 h;split
   ·decide
   ·simp only;omega
def pw:List Bs->Nat
 | []=>0
 | p :: ps=>p.length+1+pw ps
mutual
def wt:Tr->Nat
 | .mk _ _ s _ ps l=>1+s.length+pw ps+wts l
def wts:List Tr->Nat
 | []=>0
 | x :: l=>wt x+wts l
end
def tw:List Tk->Nat
 | []=>0
 | t :: l=>t.s.length+1+tw l
theorem q6K:∀ (a b:List Bs),pw (a ++ b)=pw a+pw b
 | [],b=>by simp [pw]
 | p :: a,b=>by
  show p.length+1+pw (a ++ b)=p.length+1+pw a+pw b;rw [q6K a b];omega
theorem q2W:∀ (a b:List Tr),wts (a ++ b)=wts a+wts b
 | [],b=>by simp [wts]
 | x :: a,b=>by
  show wt x+wts (a ++ b)=wt x+wts a+wts b;rw [q2W a b];omega
theorem wt_put(x:Tr)(a:Nat):wt (x.put a)=wt x:=by cases x;rfl
theorem q6L(a:Nat):∀ l:List Tr,wts (l.map (·.put a))=wts l
 | []=>rfl
 | x :: l=>by
  show wt (x.put a)+wts (l.map _)=wt x+wts l;rw [wt_put,q6L a l]
def bC:NT->Nat
 | .more _ x=>wt x
 | .args l=>wts l
 | .fin _ _ s ps=>1+s.length+pw ps
 | .aM l=>wts l
 | .stmts l=>wts l
 | _=>0
def sglN:NT->Prop
 | .aI _=>True
 | .more _ _=>True
 | _=>False
def Ct(p:Prop)(b:Nat):OO->Prop
 | some (.ok xs r)=>wts xs+tw r<=b/\(p->∃ x l,xs=x :: l)
 | _=>True
section
variable {p p' : Prop} {b b' : Nat}
theorem q1l(l:List Tk)(e:Nat):Ct p b (wrong l e):=trivial
theorem q0Y{c:Prop}[Decidable c]{o q:OO}(h1:c->Ct p b o)(h2:¬ c->Ct p b q):Ct p b (if c then o else q):=by
 by_cases h:c
 ·rw [if_pos h];exact h1 h
 ·rw [if_neg h];exact h2 h
theorem q1c{o:OO}{f:List Tr->List Tk->OO}(h:Ct p b o)(hf:∀ xs r,wts xs+tw r<=b->(p->∃ x l,xs=x :: l)->Ct p' b' (f xs r)):Ct p' b' (bnd o f):=by
 rcases o with _ | ⟨xs,r⟩ | ⟨a,e⟩
 ·trivial
 ·exact hf xs r h.1 h.2
 ·trivial
theorem q4i{o:OO}(h:Ct p b o)(hb:b<=b')(hp:p'->p):Ct p' b' o:=by
 rcases o with _ | ⟨xs,r⟩ | ⟨a,e⟩
 ·trivial
 ·exact ⟨Nat.le_trans h.1 hb,fun h'=>h.2 (hp h')⟩
 ·trivial
theorem ct_ok{xs:List Tr}{r:List Tk}(h:wts xs+tw r<=b)(hp:p->∃ x l,xs=x :: l):Ct p b (some (.ok xs r)):=⟨h,hp⟩
theorem q0H{s:Bs}{l:List Tk}{f:List Tk->OO}(hf:∀ r,tw r+1<=tw l->Ct p b (f r)):Ct p b (must s l f):=by
 cases l with
 | nil=>trivial
 | cons t r=>exact q0Y (fun _=>hf r (by show tw r+1<=t.s.length+1+tw r;omega)) fun _=>q1l _ _
theorem q2g{l:List Tk}{f:Bs->List Tk->OO}(hf:∀ s r,s.length+1+tw r=tw l->Ct p b (f s r)):Ct p b (bE l f):=by
 cases l with
 | nil=>trivial
 | cons t r=>exact q0Y (fun hk=>hf t.s r rfl) fun _=>q1l _ _
theorem q3C{f:List Bs->List Tk->OO}{c:Nat}(hf:∀ ps r,pw ps+tw r<=c->Ct p b (f ps r)):∀ (ps:List Bs) (l:List Tk),pw ps+tw l<=c->Ct p b (aC ps l f)
 | _,[],_=>trivial
 | ps,[t],h=>by
  unfold aC;refine q0Y (fun hk=>hf _ _ ?_) fun _=>q1l _ _
  rw [q6K];have:tw [t]=t.s.length+1+tw []:=rfl;show pw ps+(t.s.length+1+0)+tw []<=c;omega
 | ps,t :: u :: r,h=>by
  unfold aC;have e:tw (t :: u :: r)=t.s.length+1+(u.s.length+1+tw r):=rfl;have e2:pw (ps ++ [t.s])=pw ps+(t.s.length+1+0):=q6K _ _;have e3:tw (u :: r)=u.s.length+1+tw r:=rfl;refine q0Y (fun hk=>q0Y (fun _=>q3C hf _ r V0) fun _=>hf _ _ V0) fun _=>q1l _ _
end
theorem q16(x:Tr):wts [x]=wt x:=by show wt x+0=_;omega
theorem q0Z(t:Tk)(l:List Tk):tw (t :: l)=t.s.length+1+tw l:=rfl
theorem q2y(x:Tr)(l:List Tr):wts (x :: l)=wt x+wts l:=rfl
theorem q2h(k a:Nat)(s:Bs)(n:Nat)(ps:List Bs)(l:List Tr):wt (.mk k a s n ps l) = 1+s.length+pw ps+wts l:=rfl
theorem q1y:pw [] = 0:=rfl
theorem q3D:wts [] = 0:=rfl
theorem q6M{num:Bs->Nat×Nat}:∀ (f:Nat) (nt:NT) (d:Nat) (l:List Tk),Ct (sglN nt) (bC nt+tw l) (pF num f nt d l):=by
 intro f
 induction f with
 | zero=>intros;trivial
 | succ f ih=>
  intro nt d l;cases nt with
  | aI n=>
   unfold pF;refine q0Y (fun _=>q1c (ih (.aI (n+1)) _ _) fun xs r hx hs=>?_) fun _=>?_
   ·obtain ⟨x,m,rfl⟩:=hs trivial;refine q4i (ih (.more n x) _ _) ?_ (fun h=>h);simp only [bC,q2y] at hx ⊢;omega
   cases l with
   | nil=>trivial
   | cons t r=>
   refine q0Y (fun _=>q1l _ _) fun _=>q0Y (fun hs=>?_) fun _=>q0Y (fun hk=>?_) fun _=>q0Y (fun hs=>?_) fun _=>q2g fun s r hs=>?_
   ·refine q1c (ih (.aI 5) _ _) fun xs r' hx _=>⟨?_,fun _=>⟨_,_,rfl⟩⟩
    simp only [bC] at hx;simp only [bC,q16,q2h,q0Z,q1y];omega
   ·refine q0Y (fun _=>⟨?_,fun _=>⟨_,_,rfl⟩⟩) fun _=>q1l _ _
    simp only [bC,q16,q2h,q0Z,q1y,q3D,List.length_nil];omega
   ·refine q1c (ih (.aI 0) _ _) fun xs r' hx hs=>q0H fun r2 hr2=>⟨?_,fun _=>?_⟩
    ·rw [q6L];simp only [bC] at hx;simp only [bC,q0Z];omega
    ·obtain ⟨x,m,rfl⟩:=hs trivial;exact ⟨_,_,rfl⟩
   ·cases r with
    | nil=>
     refine ⟨?_,fun _=>⟨_,_,rfl⟩⟩;simp only [bC,q16,q2h,q1y,q3D];omega
    | cons u r'=>
     refine q0Y (fun hu=>?_) fun _=>⟨?_,fun _=>⟨_,_,rfl⟩⟩
     ·refine q1c (ih (.aI 0) _ _) fun xs r2 hx _=>q1c (ih (.args xs) _ _) fun ys r3 hy _=>q0H fun r4 hr4=>⟨?_,fun _=>⟨_,_,rfl⟩⟩
      simp only [bC] at hx hy;simp only [q0Z] at hs;simp only [bC,q16,q2h,q1y,q0Z];omega
     ·simp only [bC,q16,q2h,q1y,q3D];omega
  | more n x=>
   unfold pF;cases l with
   | nil=>exact ⟨by simp only [bC,q16];omega,fun _=>⟨_,_,rfl⟩⟩
   | cons t r=>
    refine q0Y (fun hs=>q1c (ih (.aI (n+1)) _ _) fun ys r' hy _=>?_) fun _=>⟨by simp only [bC,q16];omega,fun _=>⟨_,_,rfl⟩⟩
    refine q4i (ih (.more n (.mk (if n = 3 then 4 else 3) x.place t.s 0 [] (x :: ys))) d r') ?_ (fun h=>h);simp only [bC] at hy;simp only [bC,q2h,q2y,q1y,q0Z];omega
  | args xs=>
   unfold pF;cases l with
   | nil=>exact ⟨V0w,fun h=>h.elim⟩
   | cons t r=>
    refine q0Y (fun hs=>q1c (ih (.aI 0) _ _) fun ys r' hy _=>?_) fun _=>⟨V0w,fun h=>h.elim⟩
    refine q4i (ih (.args (xs ++ ys)) d r') ?_ (fun h=>h);simp only [bC] at hy;simp only [bC,q2W,q0Z];omega
  | fin k a s ps=>
   unfold pF;refine q1c (ih (.aI 0) _ _) fun xs r hx _=>q0H fun r' hr'=>⟨?_,fun h=>h.elim⟩
   simp only [bC] at hx;simp only [bC,q16,q2h];omega
  | inner=>
   unfold pF;cases l with
   | nil=>trivial
   | cons t r=>
    refine q0Y (fun _=>q1l _ _) fun _=>q0Y (fun hs=>?_) fun _=>q2g fun s r hs=>q0H fun r2 hr2=>?_
    ·refine q2g fun s r1 hs=>q0H fun r2 h2=>q1c (ih (.aI 0) _ _) fun xs r3 hx _=>q0H fun r4 h4=>q1c (ih (.aI 0) _ _) fun ys r5 hy _=>q0H fun r6 h6=>q1c (ih (.aM (xs ++ ys)) _ _) fun zs r7 hz _=>⟨?_,fun h=>h.elim⟩
     simp only [bC,q2W] at hx hy hz;simp only [bC,q16,q2h,q1y,q0Z];omega
    ·refine q4i (ih (.fin 10 t.at_ s []) d r2) ?_ (fun h=>h);simp only [bC,q1y];omega
  | aM zs=>
   unfold pF;cases l with
   | nil=>trivial
   | cons t r=>
    refine q0Y (fun _=>⟨?_,fun h=>h.elim⟩) fun _=>q1c (ih .inner _ _) fun xs r' hx _=>?_
    ·simp only [bC,q0Z];omega
    ·refine q4i (ih (.aM (zs ++ xs)) d r') ?_ (fun h=>h);simp only [bC] at hx;simp only [bC,q2W];omega
  | stmt=>
   unfold pF;cases l with
   | nil=>trivial
   | cons t r=>
    have fin:∀ (k:Nat) (s:Bs) (ps:List Bs) (r2:List Tk),1+s.length+pw ps+tw r2<=tw (t :: r)->Ct (sglN .stmt) (bC .stmt+tw (t :: r)) (pF num f (.fin k t.at_ s ps) d r2):=fun k s ps r2 h=>q4i (ih (.fin k t.at_ s ps) d r2) V0w (fun h=>h)
    have e0:=q0Z t r;refine q0Y (fun _=>?_) fun _=>q0Y (fun _=>?_) fun _=>q0Y (fun _=>?_) fun _=>q0Y (fun _=>?_) fun _=>q0Y (fun _=>?_) fun _=>?_
    ·exact V2O
    ·exact V2O
    ·exact q2g fun s r1 h1=>q0H fun r2 h2=>fin 8 s [] r2 V0W
    ·exact q2g fun s r1 h1=>q0H fun r2 h2=>fin 9 s [] r2 V0W
    ·exact q2g fun s r1 h1=>q0H fun r2 h2=>q3C (c:=tw r2) (fun ps r3 h3=>q0H fun r4 h4=>q0H fun r5 h5=>fin 12 s ps r5 V0) [] r2 V0W
    ·exact q4i (ih .inner 0 (t :: r)) V0w (fun h=>h)
  | stmts xs=>
   unfold pF;cases l with
   | nil=>trivial
   | cons t r=>
    refine q0Y (fun _=>⟨V0w,fun h=>h.elim⟩) fun _=>q1c (ih .stmt _ _) fun ys r' hy _=>?_
    refine q4i (ih (.stmts (xs ++ ys)) d r') ?_ (fun h=>h);simp only [bC] at hy;simp only [bC,q2W];omega
theorem tw_le(b:Nat):∀ (l:List Tk),(∀ t∈l,t.s.length<=b)->tw l<=l.length * (b+1)
 | [],_=>by simp [tw]
 | t :: l,h=>by
  have h1:=tw_le b l fun u hu=>h u (by simp [hu])
  have h2:=h t V3;rw [q0Z,List.length_cons,Nat.succ_mul];omega
theorem q5g{s:Bs}(h:(af s).er = 0):tw (af s).l<=80004000:=by
 obtain ⟨_,h2,h3⟩:=q3B h;have h1:=tw_le 20000 (af s).l fun t ht=>(h2 t ht).2
 have:(af s).l.length * 20001<=4000 * 20001:=Nat.mul_le_mul_right _ h3;omega
theorem q8E:∀ {ps:List Bs} {p:Bs},p∈ps->p.length<=pw ps
 | q :: ps,p,h=>by
  show _<=q.length+1+pw ps;rcases List.mem_cons.1 h with rfl | h
  ·omega
  ·have:=q8E h;omega
theorem q8F:∀ ps:List Bs,ps.length<=pw ps
 | []=>Nat.le_refl _
 | p :: ps=>by
  have:=q8F ps;show ps.length+1<=p.length+1+pw ps;omega
mutual
theorem q6N:∀ (x:Tr),wt x<=maxLen->lenz (bD x)
 | .mk k a s n ps l,h=>by
  rw [q2h] at h;unfold bD lenz;exact ⟨V0,fun p hp=>by have:=q8E hp;omega,q5h l V0⟩
theorem q5h:∀ (l:List Tr),wts l<=maxLen->aY (bS l)
 | [],_=>by unfold bS aY;trivial
 | x :: l,h=>by
  rw [q2y] at h;unfold bS aY;exact ⟨q6N x V0,q5h l V0⟩
end
mutual
theorem q8G:∀ (x:Tr),nbz (bD x)<=wt x
 | .mk k a s n ps l=>by
  rw [q2h];have:=q6O l;have:=q8F ps;unfold bD nbz;omega
theorem q6O:∀ (l:List Tr),au (bS l)<=wts l
 | []=>by unfold bS au;exact Nat.zero_le _
 | x :: l=>by
  rw [q2y];have:=q8G x;have:=q6O l;unfold bS au;omega
end
theorem q6P{s:Bs}{x:Tr}{t:Tk}{r:List Tk}(he:(af s).er = 0)(h:Al (af s).l (.ok [x] (t :: r))):lenz (bD x)/\nbz (bD x)<=1099511627776/\okPs 0 (lz (bD x)):=by
 obtain ⟨zs,e1,h1,_⟩:=h;simp only [List.cons.injEq,and_true] at e1;subst e1;obtain ⟨f,hf⟩:=h1.at_;have hm:=q6M (num:=ag) f (.stmts []) 0 (af s).l;rw [hf] at hm;have hw:=q5g he;have hm1:=hm.1;have hwz:wts zs<=80004000:=by
  have:bC (.stmts []) = 0:=rfl;omega
 refine ⟨q6N _ ?_,?_,?_⟩
 ·rw [q2h];simp only [q1y,List.length_nil];unfold maxLen;omega
 ·exact V3i
 ·have hg:=q5Z (num:=ag) (Q:=fun _=>True) q6J f (.stmts []) 0 (af s).l trivial (fun _ _ _=>trivial);rw [hf] at hg;obtain ⟨ys,e,hy⟩:=hg.1;have:zs=ys:=V0D;subst this;show okPs 0 (bS zs);exact q65 hy
theorem q1J{l:List Tk}{x x':Tr}{t t':Tk}{r r':List Tk}(h:Al l (.ok [x] (t :: r)))(h':Al l (.ok [x'] (t' :: r'))):x=x':=by
 obtain ⟨zs,e1,h1,_⟩:=h;obtain ⟨zs',e2,h2,_⟩:=h';have:=Rd.one h1 h2;cases this;simp only [List.cons.injEq,and_true] at e1 e2;rw [e1,e2]
theorem q10{l:Wd}{x:Tr}{t:Tk}{r:List Tk}{a er:Nat}(he:l.er = 0)(h:Al l.l (.ok [x] (t :: r)))(h':BadR Al l a er):False:=by
 obtain ⟨zs,e1,h1,t1,r1,e2,hk⟩:=h;rcases h' with ⟨h,_⟩ | ⟨_,h | ⟨xs,t',r',h,hk',_⟩⟩
 ·exact h he
 ·have:=Rd.one (show Rd ag (.stmts []) 0 l.l (.bad a er) from h) h1;cases this
 ·obtain ⟨zs',e3,h3,_⟩:=h;have:=Rd.one h1 h3;simp only [Out.ok.injEq] at this;rw [e2] at this;cases this.2;exact hk' hk
theorem q7X{l:Wd}{a er a' er':Nat}(h:BadR Al l a er)(h':BadR Al l a' er'):a=a'/\er=er':=by
 rcases h with ⟨h1,rfl,rfl⟩ | ⟨h1,h | ⟨xs,t,r,h,hk,rfl,rfl⟩⟩ <;> rcases h' with ⟨h2,rfl,rfl⟩ | ⟨h2,h' | ⟨xs',t',r',h',hk',rfl,rfl⟩⟩
 ·exact ⟨rfl,rfl⟩
 ·exact absurd h2 h1
 ·exact absurd h2 h1
 ·exact absurd h1 h2
 ·have:=Rd.one (show Rd ag (.stmts []) 0 l.l (.bad a er) from h) (show Rd ag (.stmts []) 0 l.l (.bad a' er') from h');cases this;exact ⟨rfl,rfl⟩
 ·obtain ⟨zs',e3,h3,t3,r3,e4,hk3⟩:=h';simp only [List.cons.injEq] at e4;rw [e4.1] at hk';exact absurd hk3 hk'
 ·exact absurd h1 h2
 ·exact V3n
 ·exact V3n
theorem q6Q{s:Bs}{a er:Nat}(h:BadR Al (af s) a er):er≠0:=by
 rcases h with ⟨h,_,rfl⟩ | ⟨h0,h | ⟨_,_,_,_,_,_,rfl⟩⟩
 ·exact h
 ·obtain ⟨f,hf⟩:=(show Rd ag (.stmts []) 0 (af s).l (.bad a er) from h).at_;have:=(tells h0 hf).2;omega
 ·decide
end Nm
namespace Nm
open Go Go.ChangeShapes Go.WideShapes Go.ChangeAt Go.RowKit Lx Args Pa Sh
abbrev zA:Value:=.agg #[.int .i64 0,.string ⟨#[]⟩,.int .u32 0,.int .i64 0,.slice none 0 0,.slice none 0 0]
abbrev nA3:Value:=.agg #[.slice none 0 0,.slice none 0 0,.slice none 0 0]
def BadN(s:Bs)(a:Int)(er:Nat):Prop:=(∃ a':Nat,a=(a':Int)/\BadR Al (af s) a' er)\/((af s).er = 0/\er = 120/\∃ x t r,Al (af s).l (.ok [x] (t :: r))/\ckB (bD x) = .bad a)
def PgmP(s:ByteArray)(w:World)(e:Ending)(w':World):Prop:=
 (∃ (k a:Nat) (sx:Bs) (n:Nat) (A:Option Addr) (la cA:Nat) (B:Option Addr) (lb cB:Nat) (x:Tr) (t:Tk) (r:List Tk) (vs vp vo:Value) (c:St),e = .returned (.tuple #[aO (k:Int) (a:Int) sx n A la cA B lb cB,.agg #[vs,vp,vo],.int .i64 0,.int .i64 0])/\(af s.data.toList).er = 0/\Al (af s.data.toList).l (.ok [x] (t :: r))/\ckB (bD x) = .ok c /\
  Ak (fun b=>w.heap.size<=b) w' x (bG k a sx n A la cA B lb cB)/\NaP w.heap.size w' vs vp vo c/\Below w.heap.size w w') \/
 (∃ (a:Int) (er:Nat),e = .returned (.tuple #[zA,nA3,.int .i64 a,.int .i64 (er:Int)])/\er≠0/\BadN s.data.toList a er/\Below w.heap.size w w')
theorem q1K{fn:Func}{p q u v:Tmp}(h:fn.results = #[.cell p 26,.cell q 39,.tmp u,.tmp v])(tmps:Array Value)(W:World){g g':Nat}{cs ds:Array Value}(hp:tmps.getD p undef = .pointer (some ⟨g,0,none⟩))(hq:tmps.getD q undef = .pointer (some ⟨g',0,none⟩))(hg:Aa W g 26 cs)(hg':Aa W g' 39 ds)(hs:some 6=some cs.size)(hs':some 3=some ds.size){x y:Value}(hx:tmps.getD u undef=x)(hy:tmps.getD v undef=y) :
  (results fn tmps).run Tryz.prog W = .ok (.tuple #[.agg cs,.agg ds,x,y]) W:=by
 subst hx;subst hy;have hp':tmps[p]?.getD undef = .pointer (some ⟨g,0,none⟩):=VQ;have hq':tmps[q]?.getD undef = .pointer (some ⟨g',0,none⟩):=by simpa using hq
 simp [results,h,hp',hq',asAddr,run_loadVar_row W g 26 26 cs (0,0) _ hg Tryz.underlying26 rfl (szNd.trans hs),run_loadVar_row W g' 39 39 ds (0,0) _ hg' Tryz.underlying39 rfl (szNm.trans hs')]
abbrev put3(w:World)(g:Nat)(a b c:Value):World:=((w.setCell ⟨g,0,none⟩ a).setCell ⟨g,1,none⟩ b).setCell ⟨g,2,none⟩ c
theorem q2z{X:Nat->Prop}{w0 w:World}{g:Nat}(h:Upd X w0 w)(hg:g < w0.heap.size->X g)(a b c:Value):Upd X w0 (put3 w g a b c):=
 ((h.setCell (p:=⟨g,0,none⟩) hg a).setCell (p:=⟨g,1,none⟩) hg b).setCell (p:=⟨g,2,none⟩) hg c
theorem put9{w:World}{g g':Nat}(hne:g≠g'){a b c d e f a1 b1 c1:Value}(h:Aa w g 26 #[a,b,c,d,e,f])(h':Aa w g' 39 #[a1,b1,c1])(a2 b2 c2 d2 e2 f2 a3 b3 c3:Value) :
  Aa (put3 (az w g a2 b2 c2 d2 e2 f2) g' a3 b3 c3) g 26 #[a2,b2,c2,d2,e2,f2]/\Aa (put3 (az w g a2 b2 c2 d2 e2 f2) g' a3 b3 c3) g' 39 #[a3,b3,c3]/\Upd (fun b=>b=g\/b=g') w (put3 (az w g a2 b2 c2 d2 e2 f2) g' a3 b3 c3):=by
 have h1:=Aa.az h a2 b2 c2 d2 e2 f2;have h2:=q0u h' hne.symm a2 b2 c2 d2 e2 f2;refine ⟨h1.upd (X:=fun b=>b=g') (q2z (X:=fun b=>b=g') (Upd.refl _ _) (fun _=>rfl) _ _ _) hne,Aa.put3 h2 _ _ _,q2z (q09 (Upd.refl _ _) (fun _=>.inl rfl) _ _ _ _ _ _) (fun _=>.inr rfl) _ _ _⟩
theorem pgm(s:ByteArray)(w:World):Calls Tryz.prog 30 #[.string s] w (PgmP s w):=by
 obtain ⟨w0,hw0,hb0,hB,hs0⟩:=dw w #[.int .i64 0,.string ⟨#[]⟩,.int .u32 0,.int .i64 0,.slice none 0 0,.slice none 0 0];obtain ⟨w1,hw1,hb1,-⟩:=aS w0 #[.slice none 0 0,.slice none 0 0,.slice none 0 0] 39;have hs1:w1.heap.size=w.heap.size+2:=by rw [<-hw1];simp;omega
 have hC:Aa w1 (w.heap.size+1) 39 #[.slice none 0 0,.slice none 0 0,.slice none 0 0]:=by rw [<-hw1,<-hs0];exact Aa.new _ _ _
 have HB01:=Hi (hb0.trans (hb1.mono hb0.size));obtain ⟨g,hg⟩:∃ g,w.heap.size=g:=⟨_,rfl⟩;obtain ⟨g',hg'⟩:∃ g',g+1=g':=⟨_,rfl⟩;rw [hg] at hB hC;rw [hg'] at hC;have hgg:¬ g=g':=V0;have hgg':¬ g'=g:=V0;have HG:=Hi hg;have HG':=Hi hg';have HB:=Hi (hB.below hb1 hB.lt);have HC:=Hi hC;have HW0:=Hi hw0;have HW1:=Hi hw1;have HP:=Hi (q6H s w1);have HS1:=Hi hs1;have HS0:=Hi hs0;clear hw0 hb0 hB hw1 hb1 hC hs1 hs0 hg hg';go_enter Tryz.func30,Tryz.ntmps30;go_upto_region 1 with fail
 rw [HW0.out];rw [HW1.out];simp only [HG.out,HG'.out];go_wp2_with fail
 refine HP.out.mono ?_;rintro e w2 (⟨k,a,sx,n,A,la,cA,B,lb,cB,x,t,r,rfl,h1,h2,h3,hT,hb⟩ | ⟨a,er,rfl,hbad,hb⟩)
 ·obtain ⟨w3,hw3,hb3,hX3,hs3⟩:=dw w2 (nB (k:Int) (a:Int) sx n A la cA B lb cB);have aG:=hb.trans (hb3.mono hb.size);have hT3:=TIz.below hb3 (q4W hT);obtain ⟨hz1,hz2,hz3⟩:=q6P h1 h2;have HCK:=Hi (check (bD x) hz1 hz2 w3 (k:Int) (a:Int) sx n A la cA B lb cB hT3);have HT:=Hi (hT.upd (Upd.of_below hb3 fun _=>False) fun _ _ h=>h);have Aq:=Hi hX3;have HW3:=Hi hw3;have HB3:=Hi aG;have HS3:=Hi hs3;have HER:=Hi h1;have HRD:=Hi h2;have hsz:=Hi hb.size;obtain ⟨⟨e0,e1,e2,e3,e4,e5⟩,z0,z1,z2,z3,z4,z5⟩:=Aa.c6 hX3;obtain ⟨res,hres⟩:∃ res,ckB (bD x)=res:=⟨_,rfl⟩;have Ad:=Hi hres;rw [hres] at HCK;clear hw3 hb3 hX3 hs3 hb aG hT hT3 hz1 hz2 hz3 h1 h2 h3 hres HP;go_wp2_with fail
  rw [HW3.out];refine (show Calls Tryz.prog 28 #[aO (k:Int) (a:Int) sx n A la cA B lb cB] w3 _ from HCK.out).mono ?_;intro e w4 h4;clear e0 e1 e2 e3 e4 e5 z0 z1 z2 z3 z4 z5 HCK;cases res with
  | bad a1=>
   have h4':e = .returned (.tuple #[nA3,.int .i64 a1,.int .i64 120])/\Below w3.heap.size w3 w4:=h4;clear h4;obtain ⟨rfl,hb4⟩:=h4';obtain ⟨w5,hw5,hb5,-⟩:=aS w4 #[.slice none 0 0,.slice none 0 0,.slice none 0 0] 39;have HW5:=Hi hw5;have hb14:=HB3.out.trans ((hb4.trans (hb5.mono hb4.size)).mono HB3.out.size);have hX:=HB.out.below hb14 HB.out.lt;have hY:=HC.out.below hb14 HC.out.lt;obtain ⟨⟨e0,e1,e2,e3,e4,e5⟩,z0,z1,z2,z3,z4,z5⟩:=Aa.c6 hX;obtain ⟨c0,c1,c2,f0,f1,f2⟩:=Aa.c3 hY;have hb14s:=hb14.size;obtain ⟨p1,p2,p3⟩:=put9 hgg hX hY (.int .i64 0) (.string ⟨#[]⟩) (.int .u32 0) (.int .i64 0) (.slice none 0 0) (.slice none 0 0) (.slice none 0 0) (.slice none 0 0) (.slice none 0 0);have HN1:=Hi p1;have HN2:=Hi p2;have Ac:=Hi (show PgmP s w (.returned (.tuple #[zA,nA3,.int .i64 a1,.int .i64 ((120:Nat):Int)])) _ from .inr ⟨a1,120,rfl,V2,.inr ⟨HER.out,rfl,x,t,r,HRD.out,Ad.out⟩,(HB01.out.trans (hb14.mono VU)).trans (p3.below (by have:=hb14.size;have:=HG.out;have:=HG'.out;have:=HS1.out;omega) fun b hb=>V1O)⟩);clear hX hY hb4 hb14 hb14s p1 p2 p3 hw5 hb5;go_upto_region 5 with fail
   rw [HW5.out];go_wp2_with fail
   exact bodyPost_ret (v:=.tuple #[zA,nA3,.int .i64 a1,.int .i64 120]) (q1K rfl _ _ rfl rfl HN1.out HN2.out rfl rfl rfl rfl) rfl Ac.out
  | ok c=>
   obtain ⟨vs,vp,vo,rfl,⟨os,op,oo,hbd⟩,hb4⟩:=h4;obtain ⟨As,cs,rfl⟩:=q07 os;obtain ⟨Ap,cp,rfl⟩:=q07 op;obtain ⟨Ao,co,rfl⟩:=q07 oo;obtain ⟨w5,hw5,hb5,hY5⟩:=aS w4 #[.slice As c.se.length cs,.slice Ap c.pu.length cp,.slice Ao c.ou.length co] 39;have hb46:=hb5;have hb36:=hb4.trans (hb46.mono hb4.size);have hb16:=HB3.out.trans (hb36.mono HB3.out.size);have hu46:Upd (fun _=>False) w4 w5:=Upd.of_below hb46 _;have hX:=HB.out.below hb16 HB.out.lt;have hY:=HC.out.below hb16 HC.out.lt;have hN6:=Aq.out.below hb36 Aq.out.lt;have hT6:=HT.out.upd (Upd.of_below hb36 fun _=>False) fun _ _ h=>h
   have hsz4:=hb4.size;have hsz3:=HS3.out;have hs12:=HS1.out;have hgo:=HG.out;have hgo':=HG'.out;have hs46:=hb46.size;have hb35:=hb4.trans (hb5.mono hb4.size);have hb15:=HB3.out.trans (hb35.mono HB3.out.size);obtain ⟨⟨e0,e1,e2,e3,e4,e5⟩,z0,z1,z2,z3,z4,z5⟩:=Aa.c6 (HB.out.below hb15 HB.out.lt);obtain ⟨c0,c1,c2,f0,f1,f2⟩:=Aa.c3 (HC.out.below hb15 HC.out.lt);obtain ⟨⟨g0,g1,g2,g3,g4,g5⟩,y0,y1,y2,y3,y4,y5⟩:=Aa.c6 (Aq.out.below hb35 Aq.out.lt);obtain ⟨d0,d1,d2,i0,i1,i2⟩:=Aa.c3 hY5;obtain ⟨p1,p2,p3⟩:=put9 hgg hX hY (.int .i64 (k:Int)) (.string ⟨sx.toArray⟩) (.int .u32 (n:Int)) (.int .i64 (a:Int)) (.slice A la cA) (.slice B lb cB) (.slice As c.se.length cs) (.slice Ap c.pu.length cp) (.slice Ao c.ou.length co);obtain ⟨wp,hwp⟩:∃ wp,put3 (az w5 g (.int .i64 (k:Int)) (.string ⟨sx.toArray⟩) (.int .u32 (n:Int)) (.int .i64 (a:Int)) (.slice A la cA) (.slice B lb cB)) g' (.slice As c.se.length cs) (.slice Ap c.pu.length cp) (.slice Ao c.ou.length co)=wp:=⟨_,rfl⟩;rw [hwp] at p1 p2 p3;have hdr:Below wp.heap.size wp wp.drew:=Below.drew (Below.refl _ _);have HN1:=Hi (p1.below hdr p1.lt);have HN2:=Hi (p2.below hdr p2.lt);replace p3:=p3.trans (Upd.of_below hdr _);have hpo:∀ {e:TypeId} {sz m:Nat} {v:Value} {xs:List Value},w4.ownsRow w3.heap.size e sz v m xs->wp.drew.ownsRow w.heap.size e sz v m xs:=fun h=>
    q2M (ae (ae h hu46 fun _ _ h=>h) p3 fun b hb hq=>by have:=hsz.out;have:=(av h b hb).1;omega) V0x
   have Ac:=Hi (show PgmP s w (.returned (.tuple #[aO (k:Int) (a:Int) sx n A la cA B lb cB,.agg #[.slice As c.se.length cs,.slice Ap c.pu.length cp,.slice Ao c.ou.length co],.int .i64 0,.int .i64 0])) wp.drew from
    .inl ⟨k,a,sx,n,A,la,cA,B,lb,cB,x,t,r,_,_,_,c,rfl,HER.out,HRD.out,Ad.out,(hT6.upd p3 fun b hb h=>V0x).mono fun b hb _=>V0x,⟨hpo os,hpo op,hpo oo,hbd⟩,(HB01.out.trans (hb16.mono VU)).trans (p3.below (by have:=hb16.size;have:=HS1.out;omega) fun b hb=>V1O)⟩)
   have HW5:=Hi hw5;have hwp':=hwp;unfold put3 az at hwp';have HWP:=Hi hwp';have q1:¬ g=w4.heap.size:=V0x;have q2:¬ w4.heap.size=g:=V0x;clear hb35 hb15 hX hY hN6 hT6 hb4 hb5 hb46 hb36 hb16 hu46 hpo hgo hgo' hs12 hsz3 hsz4 hs46 p1 p2 p3 os op oo hbd hw5 hwp hwp' hY5 hdr;go_upto_region 7 with fail
   rw [HW5.out]
   go_region
   all_goals (
    rw [HWP.out];go_wp2_with fail
    exact bodyPost_ret (v:=.tuple #[aO (k:Int) (a:Int) sx n A la cA B lb cB,.agg #[.slice As c.se.length cs,.slice Ap c.pu.length cp,.slice Ao c.ou.length co],.int .i64 0,.int .i64 0]) (q1K rfl _ _ rfl rfl HN1.out HN2.out rfl rfl rfl rfl) rfl Ac.out)
 ·have hX:=HB.out.below hb HB.out.lt;have hY:=HC.out.below hb HC.out.lt;have hs12:=HS1.out;have hgo:=HG.out;have hgo':=HG'.out;have hbs:=hb.size;have her:=q6Q hbad;obtain ⟨w3,hw3,hb3,hX3,hs3⟩:=dw w2 #[.int .i64 0,.string ⟨#[]⟩,.int .u32 0,.int .i64 0,.slice none 0 0,.slice none 0 0];have hX':=hX.below hb3 hX.lt;have hY':=hY.below hb3 hY.lt;have hb13:=hb.trans (hb3.mono hb.size);have hbs3:=hb13.size;obtain ⟨⟨e0,e1,e2,e3,e4,e5⟩,z0,z1,z2,z3,z4,z5⟩:=Aa.c6 hX';obtain ⟨c0,c1,c2,f0,f1,f2⟩:=Aa.c3 hY';obtain ⟨p1,p2,p3⟩:=put9 hgg hX' hY' (.int .i64 0) (.string ⟨#[]⟩) (.int .u32 0) (.int .i64 0) (.slice none 0 0) (.slice none 0 0) (.slice none 0 0) (.slice none 0 0) (.slice none 0 0);have HN1:=Hi p1;have HN2:=Hi p2;have hz:((er:Int) != 0)=true:=V4;have Ac:=Hi (show PgmP s w (.returned (.tuple #[zA,nA3,.int .i64 (a:Int),.int .i64 (er:Int)])) _ from .inr ⟨(a:Int),er,rfl,her,.inl ⟨a,rfl,hbad⟩,(HB01.out.trans (hb13.mono VU)).trans (p3.below VU fun b hb=>V1O)⟩);have HW3:=Hi hw3;clear hX hY hX' hY' hb hb13 hb3 hX3 hw3 p1 p2 p3 hbad hgo hgo' hs12 hbs hbs3;go_upto_region 2 with fail
  rw [HW3.out];go_wp2_with fail
  exact bodyPost_ret (v:=.tuple #[zA,nA3,.int .i64 (a:Int),.int .i64 (er:Int)]) (q1K rfl _ _ rfl rfl HN1.out HN2.out rfl rfl rfl rfl) rfl Ac.out
theorem resNmR{g:Nat}{n:Array Value}{W:World}(hN:Aa W g 39 n)(hs:some 3=some n.size)(tmps:Array Value)(h2:tmps.getD 2 undef = .pointer (some ⟨g,0,none⟩)) :
  (results Tryz.f14 tmps).run Tryz.prog W = .ok (.tuple #[.agg n,tmps.getD 3 undef,tmps.getD 4 undef]) W:=
 q2L rfl tmps W g (.agg n) h2 (run_loadVar_row W g 39 39 n (0,0) _ hN Tryz.underlying39 rfl (szNm.trans hs))
def v0R(a b:Nat):Nat->Value
 | 3=>.slice (some ⟨a,0,none⟩) 1 1
 | 4=>.slice (some ⟨b,0,none⟩) 1 1
 | _=>.slice none 0 0
theorem q7Y{w w1 w2 w3:World}(h1:w.alloc (.cells #[.string ⟨#[115,101,108]⟩] 9)=w1)(h2:w1.alloc (.cells #[.int .i64 3] 3)=w2){lo:Nat}(hlo:lo<=w.heap.size)
  (h3:w2.alloc (.cells #[.slice none 0 0,.slice none 0 0,.slice none 0 0,.slice (some ⟨w.heap.size,0,none⟩) 1 1,.slice (some ⟨w1.heap.size,0,none⟩) 1 1,.int .i64 0,.bool false,.slice none 0 0,.slice none 0 0,.slice none 0 0] 70)=w3) :
  RV (fun b=>w.heap.size<=b) lo w3 w2.heap.size (v0R w.heap.size w1.heap.size) initR/\Below w.heap.size w w3:=by
 have s1:w1.heap.size=w.heap.size+1:=by rw [<-h1];simp
 have s2:w2.heap.size=w1.heap.size+1:=by rw [<-h2];simp
 have s3:w3.heap.size=w2.heap.size+1:=by rw [<-h3];simp
 have hb1:Below w.heap.size w w1:=by rw [<-h1];exact (Below.refl _ _).alloc (Nat.le_refl _) _
 have hb2:Below w1.heap.size w1 w2:=by rw [<-h2];exact (Below.refl _ _).alloc (Nat.le_refl _) _
 have hb3:Below w2.heap.size w2 w3:=by rw [<-h3];exact (Below.refl _ _).alloc (Nat.le_refl _) _
 have o3:w3.ownsRow lo 9 1 (.slice (some ⟨w.heap.size,0,none⟩) 1 1) 1 [ai sel]:=by
  have h:w1.ownsRow lo 9 1 (.slice (some ⟨w.heap.size,0,none⟩) 1 1) 1 [ai sel]:=by rw [<-h1];exact q11 w hlo _ 1 1 [ai sel] rfl V2
  exact ae (ae h (Upd.of_below hb2 fun _=>False) fun _ _ h=>h) (Upd.of_below hb3 fun _=>False) fun _ _ h=>h
 have o4:w3.ownsRow lo 3 1 (.slice (some ⟨w1.heap.size,0,none⟩) 1 1) 1 [intV 3]:=by
  have h:w2.ownsRow lo 3 1 (.slice (some ⟨w1.heap.size,0,none⟩) 1 1) 1 [intV 3]:=by rw [<-h2];exact q11 w1 V0 _ 1 1 [intV 3] rfl V2
  exact ae h (Upd.of_below hb3 fun _=>False) fun _ _ h=>h
 have hbk:Aa w3 w2.heap.size 70 #[.slice none 0 0,.slice none 0 0,.slice none 0 0,.slice (some ⟨w.heap.size,0,none⟩) 1 1,.slice (some ⟨w1.heap.size,0,none⟩) 1 1,.int .i64 0,.bool false,.slice none 0 0,.slice none 0 0,.slice none 0 0]:=by rw [<-h3];exact Aa.new _ _ _
 have hcase:∀ j,j < 8->∀ b,(v0R w.heap.size w1.heap.size j).ownBlock=some b->(j = 3/\b=w.heap.size)\/(j = 4/\b=w1.heap.size):=fun j hj b hb=>by
  have h8:j = 0\/j = 1\/j = 2\/j = 3\/j = 4\/j = 5\/j = 6\/j = 7:=V0;rcases h8 with rfl | rfl | rfl | rfl | rfl | rfl | rfl | rfl
  ·cases hb
  ·cases hb
  ·cases hb
  ·exact .inl ⟨rfl,(Option.some.inj hb).symm⟩
  ·exact .inr ⟨rfl,(Option.some.inj hb).symm⟩
  ·cases hb
  ·cases hb
  ·cases hb
 refine ⟨⟨⟨0,hbk,fun a h=>VX⟩,fun j hj=>?_,fun i j hi hj hij b hb hb'=>?_,fun j hj hb=>?_,⟨by show w.heap.size<=w2.heap.size;omega,fun j hj b hb=>?_⟩,⟨V0,V0⟩,rfl⟩,(hb1.trans (hb2.mono hb1.size)).trans (hb3.mono V0)⟩
 ·have h8:j = 0\/j = 1\/j = 2\/j = 3\/j = 4\/j = 5\/j = 6\/j = 7:=by omega
  rcases h8 with rfl | rfl | rfl | rfl | rfl | rfl | rfl | rfl
  ·exact V06
  ·exact V06
  ·exact V06
  ·exact o3
  ·exact o4
  ·exact V06
  ·exact V06
  ·exact V06
 ·rcases hcase i hi b hb with ⟨rfl,h⟩ | ⟨rfl,h⟩ <;> rcases hcase j hj b hb' with ⟨rfl,h'⟩ | ⟨rfl,h'⟩
  ·exact hij rfl
  ·omega
  ·omega
  ·exact hij rfl
 ·rcases hcase j hj _ hb with ⟨_,h⟩ | ⟨_,h⟩ <;> omega
 ·show w.heap.size<=b;rcases hcase j hj b hb with ⟨_,h⟩ | ⟨_,h⟩ <;> omega
theorem rcheck(z:Tz)(hok:okPs 0 (lz z))(hm:nbz z<=1099511627776)(w:World)(k a:Int)(s:Bs)(n:Nat)(A:Option Addr)(la cA:Nat)(B:Option Addr)(lb cB:Nat)(hT:TIc True w z (nzC k a s n A la cA B lb cB)) :
  Calls Tryz.prog 14 #[aO k a s n A la cA B lb cB] w (ChkP w (ckB z)):=by
 have hboth:=ck_both hok;obtain ⟨k1,a1,s1,n1,ps,l⟩:=z;obtain ⟨rfl,rfl,rfl,rfl,rfl,rfl,hl,_,_,css,hL,hS⟩:=q0B hT;have hlm:l.length<=9223372036854775807:=hl;have hnb:nbz (.mk k a s n ps l)=ps.length+1+au l:=rfl;have hck:ckR (.mk k a s n ps l)=bW 0 l initR:=rfl;rw [hck] at hboth;obtain ⟨w1,hw1,hb1,hX1,hs1⟩:=dw w (nB k a s n A l.length cA B ps.length cB);obtain ⟨w2,hw2⟩:∃ w2,w1.alloc (.cells nil3 39)=w2:=⟨_,rfl⟩;have hb2:Below w1.heap.size w1 w2:=V1J;have hR2:Aa w2 w1.heap.size 39 nil3:=by rw [<-hw2];exact Aa.new _ _ _
 have hs2:w2.heap.size=w1.heap.size+1:=VS;rw [hs1] at hR2;obtain ⟨w3,hw3⟩:∃ u,w2.alloc (.cells #[.string ⟨#[115,101,108]⟩] 9)=u:=⟨_,rfl⟩;obtain ⟨w4,hw4⟩:∃ u,w3.alloc (.cells #[.int .i64 3] 3)=u:=⟨_,rfl⟩;obtain ⟨x3,hx3⟩:∃ b,w2.heap.size=b:=⟨_,rfl⟩;obtain ⟨x4,hx4⟩:∃ b,w3.heap.size=b:=⟨_,rfl⟩;obtain ⟨g,hg⟩:∃ b,w4.heap.size=b:=⟨_,rfl⟩;obtain ⟨w5,hw5⟩:∃ u,w4.alloc (.cells #[.slice none 0 0,.slice none 0 0,.slice none 0 0,.slice (some ⟨x3,0,none⟩) 1 1,.slice (some ⟨x4,0,none⟩) 1 1,.int .i64 0,.bool false,.slice none 0 0,.slice none 0 0,.slice none 0 0] 70)=u:=⟨_,rfl⟩;obtain ⟨hRV,hb5⟩:=q7Y (w3:=w5) hw3 hw4 (Nat.le_refl _) (by rw [hx3,hx4];exact hw5);rw [hg] at hRV;have hgs:w.heap.size+2<=g:=by rw [<-hg,<-hw4,<-hw3];simp;omega
 have hs23:w2.heap.size=w.heap.size+2:=V0;have hb05:Below w.heap.size w w5:=(hb1.trans (hb2.mono hb1.size)).trans (hb5.mono V0);have hR5:=hR2.below hb5 hR2.lt;have hN5:=(hX1.below hb2 hX1.lt).below hb5 V0;have HB5:=Hi hb05;have HR5:=Hi hR5;have HN5:=Hi hN5;have HBOTH:=Hi hboth;have HL:=Hi hL;have HS:=Hi hS;have H0:=Hi (show RvJ (fun b=>w.heap.size+2<=b) w2.heap.size g w5 (v0R x3 x4) (bW 0 (l.take 0) initR) (1+au (l.take 0)) w5 from by
  rw [List.take_zero,q1E,<-hx3,<-hx4];refine ⟨hRV.mono fun b hb _=>.inl (by rw [hs23] at hb;exact hb),fun i hi=>?_,Upd.refl _ _⟩;have h8:i = 0\/i = 1\/i = 2\/i = 3\/i = 4\/i = 5\/i = 6\/i = 7:=V0;rcases h8 with rfl | rfl | rfl | rfl | rfl | rfl | rfl | rfl <;> decide)
 have HW1:=Hi hw1;have HW2:=Hi hw2;have HW3:=Hi hw3;have HW4:=Hi hw4;have HW5:=Hi hw5;have Aq:=Hi hx3;have Ba:=Hi (show x3+1=x4 by rw [<-hx4,<-hw3];simp;omega);have HG:=Hi (show x4+1=g by rw [<-hg,<-hw4];simp;omega);have HGS:=Hi hgs;have HS23:=Hi hs23;have HM:=Hi (show 1+au l<=1099511627776 from V0);have HXN:=Hi (show ∀ b,New (fun b=>w.heap.size+2<=b) w5 b->w.heap.size<=b from fun b hb=>by
  have:=hb05.size;rcases hb with hb | hb <;> omega)
 obtain ⟨res,hres⟩:∃ res,ckB (.mk k a s n ps l)=res:=⟨_,rfl⟩;rw [hres] at HBOTH ⊢;clear hT hL hS hl hm hw1 hb1 hX1 hs1 hw2 hb2 hR2 hs2 hw3 hw4 hw5 hx3 hx4 hg hRV hb5 hb05 hR5 hN5 hgs hs23 hboth hck hnb hres hok;go_enter Tryz.func14,Tryz.ntmps14;go_upto_region 1 with fail
 rw [HW1.out];rw [show w1.alloc (.cells #[.slice none 0 0,.slice none 0 0,.slice none 0 0] 39)=w2 from HW2.out];go_upto_region 2 with fail
 rw [HW3.out,Aq.out,HW4.out];simp only [Ba.out,HG.out];rw [HW5.out];go_upto_region 3 with fail
 go_loopw [6] (fun vi wr=>∃ (j:Nat) (v5:Nat->Value),j<=l.length/\vi = .int .i64 (j:Int)/\Hid (RvJ (fun b=>w.heap.size+2<=b) w2.heap.size g w5 v5 (bW 0 (l.take j) initR) (1+au (l.take j)) wr)) (fun vi _=>l.length - (intOf vi).toNat)
 case atStart=>exact ⟨0,_,V0,rfl,H0⟩
 case round=>
  clear H0;obtain ⟨j,v5,hj,rfl,HJ⟩:=hrel;obtain ⟨⟨e0,e1,e2,e3,e4,e5⟩,z0,z1,z2,z3,z4,z5⟩:=Aa.c6 (HN5.out.upd HJ.out.up V0);by_cases hlt:j < l.length
  ·obtain ⟨x,hx⟩:∃ x,l[j]?=some x:=⟨_,List.getElem?_eq_getElem hlt⟩;have HBr:=Hi (HB5.out.trans (HJ.out.up.below HB5.out.size fun b hb=>HXN.out b (.inl hb)));obtain ⟨b2',o2,k3,a3,s3,n3,A3',la3,cA3,B3,lb3,cB3,rfl,hTx,hb3,g0,g1,g2,g3,g4,g5⟩:=q0T HBr.out HL.out HS.out hx;have hmb:1+au (l.take j)+nbz x<=1099511627776:=by
    have h1:=q6a _ _ _ hx;have h3:=HM.out;omega
   have HC:=Hi (rstmt (SizeOf.sizeOf x+1) x (Nat.lt_succ_self _) w wr (New (fun b=>w.heap.size+2<=b) w5) w2.heap.size g v5 _ _ k3 a3 s3 n3 A3' la3 cA3 B3 lb3 cB3 HBr.out hTx HXN.out HJ.out.rv HJ.out.le hmb);have HXX:=Hi hx;clear hTx hx hmb;go_wp2_with fail
   refine HC.out.mono ?_;intro e w6 hr;obtain ⟨rfl,v6,h6⟩:=HJ.out.step hr;have H3:=Hi (show RvJ (fun b=>w.heap.size+2<=b) w2.heap.size g w5 v6 (bW 0 (l.take (j+1)) initR) (1+au (l.take (j+1))) w6 from by
    rw [q2J _ _ _ _ HXX.out,q1Z _ _ _ HXX.out,<-Nat.add_assoc];exact h6)
   clear hr h6 HC e0 e1 e2 e3 e4 e5 z0 z1 z2 z3 z4 z5 g0 g1 g2 g3 g4 g5;go_wp2_with fail
   go_roundw
   case rel=>exact ⟨j+1,v6,V0,V7,H3⟩
   case measure=>simp [intOf];omega
  ·have hfull:=HJ.out;rw [List.take_of_length_le V0] at hfull;obtain ⟨dE,hdE⟩:∃ e,bW 0 l initR=e:=⟨_,rfl⟩;rw [hdE] at hfull HBOTH;have HB7:=Hi (HB5.out.trans (hfull.up.below HB5.out.size fun b hb=>V0));have hR7:=HR5.out.upd hfull.up V0;obtain ⟨q0,q1,q2,y0,y1,y2⟩:=Aa.c3 (show Aa wr (w.heap.size+1) 39 #[.slice none 0 0,.slice none 0 0,.slice none 0 0] from hR7);have hRlt:=hR7.lt;obtain ⟨ba,hbk,aL⟩:=hfull.rv.blk;have hgl:=hbk.lt;cases res with
   | bad a1=>
    have hbd:dE.bad=some a1:=HBOTH.out;obtain rfl:ba=a1:=aL _ hbd;have hsome:dE.bad.isSome=true:=by rw [hbd];rfl
    rw [hsome] at hbk;obtain ⟨⟨c0,c1,c2,c3,c4,c5,c6,c7,c8,c9⟩,f5,f6⟩:=EV.c10 hbk;have hdr:Below wr.heap.size wr wr.drew:=Below.drew (Below.refl _ _);have HNG:=Hi (show ¬ g=w.heap.size+1 from by have:=HGS.out;omega);obtain ⟨wz,hwd⟩:∃ u,wr.drew=u:=⟨_,rfl⟩;rw [hwd] at hdr;have HBZ:=Hi (HB7.out.trans (hdr.mono HB7.out.size));have aa:Upd (fun b=>b=w.heap.size+1) wz wz:=Upd.refl _ _;have HKG:=Hi (hbk.below hdr hbk.lt);have HKR:=Hi ((show Aa wr (w.heap.size+1) 39 #[.slice none 0 0,.slice none 0 0,.slice none 0 0] from hR7).below hdr hRlt);have hne1:¬ w.heap.size+1=g:=by have:=HGS.out;omega
    clear hfull hdE hR7 hbk aL hbd hsome hdr;go_upto_region 7 with fail
    go_wp2_with fail
    refine HT.wp_region (Z:=fun w'=>Upd (fun b=>b=w.heap.size+1) wz w') (S:=fun _=>True) (st:=[]) V1 ?_;rw [hwd];clear hwd;refine HT.m 0 aa ?_;refine HT.m 1 aa ?_;refine HT.m 2 aa ?_;refine HT.m 3 aa ?_;refine HT.k 4 rfl (by intro v hSw;have hA:=HKG.out.upd hSw HNG.out;have C_:=EV.c10 hA;clear hSw hA;go_simp;try with_reducible rfl) aa ?_;obtain ⟨q0,q1,q2,y0,y1,y2⟩:=Aa.c3 HKR.out;have hRl:=HKR.out.lt;refine HT.one (i:=5) V1 rfl (fun K hK=>?_);go_simp;have hZ1:=q2z (X:=fun b=>b=w.heap.size+1) aa (fun _=>rfl) (.slice none 0 0) (.slice none 0 0) (.slice none 0 0);have hRR:=Aa.put3 HKR.out (.slice none 0 0) (.slice none 0 0) (.slice none 0 0);(try dsimp only);refine hK.out _ _ hZ1 trivial ?_;clear hK K;(try simp only [HT.pS]);refine HT.one (i:=6) V1 rfl (fun K hK=>?_);go_simp;(try dsimp only);refine hK.out _ _ hZ1 trivial ?_;clear hK K;(try simp only [HT.pS]);refine HT.one (i:=7) V1 rfl (fun K hK=>?_);go_simp;(try dsimp only);refine hK.out _ _ hZ1 trivial ?_;clear hK K;(try simp only [HT.pS]);refine HT.done V1 ?_;have HRR:=Hi hRR;have Ac:=Hi (show ChkP w (.bad ba) (.returned (.tuple #[.agg nil3,.int .i64 ba,.int .i64 120])) (put3 wz (w.heap.size+1) (.slice none 0 0) (.slice none 0 0) (.slice none 0 0)) from ⟨rfl,HBZ.out.trans (hZ1.below HBZ.out.size fun b hb=>V0)⟩);clear aa hZ1 hRR q0 q1 q2 y0 y1 y2 hRl;go_wp2_with fail
    exact bodyPost_ret (v:=.tuple #[.agg nil3,.int .i64 ba,.int .i64 120]) (resNmR HRR.out rfl _ rfl) rfl Ac.out
   | ok c=>
    have hrl:Rl c dE:=HBOTH.out;have hbd:dE.bad.isSome=false:=by rw [hrl.good];rfl
    rw [hbd] at hbk;obtain ⟨⟨c0,c1,c2,c3,c4,c5,c6,c7,c8,c9⟩,f5,f6⟩:=EV.c10 hbk;have o5:wr.ownsRow w2.heap.size 9 1 (v5 5) dE.se.length (dE.se.map ai):=hfull.rv.own 5 V2;have o6:wr.ownsRow w2.heap.size 9 1 (v5 6) dE.pu.length (dE.pu.map ai):=hfull.rv.own 6 V2;have o7:wr.ownsRow w2.heap.size 36 3 (v5 7) dE.ou.length (dE.ou.flatMap laC):=hfull.rv.own 7 V2;have hl5:dE.se.length<=1+au l:=hfull.le 5 V2;have hl6:dE.pu.length<=1+au l:=hfull.le 6 V2;have hl7:dE.ou.length<=1+au l:=hfull.le 7 V2;rw [hrl.se] at o5 hl5;rw [hrl.pu] at o6 hl6;rw [hrl.ou] at o7 hl7;have hbnd:=HM.out;have Az:=Hi (show c.se.length<=1099511627776/\c.pu.length<=1099511627776/\c.ou.length<=1099511627776 from ⟨V0,V0,V0⟩);obtain ⟨As,cs,hv5⟩:=q07 o5;obtain ⟨Ap,cp,hv6⟩:=q07 o6;obtain ⟨Ao,co,hv7⟩:=q07 o7;rw [hv5] at o5 c7;rw [hv6] at o6 c8;rw [hv7] at o7 c9;have hRR:=Aa.put3 (show Aa wr (w.heap.size+1) 39 #[.slice none 0 0,.slice none 0 0,.slice none 0 0] from hR7) (.slice As c.se.length cs) (.slice Ap c.pu.length cp) (.slice Ao c.ou.length co);have HRR:=Hi hRR;have hun:Upd (fun b=>b=w.heap.size+1) wr (put3 wr (w.heap.size+1) (.slice As c.se.length cs) (.slice Ap c.pu.length cp) (.slice Ao c.ou.length co)):=q2z (X:=fun b=>b=w.heap.size+1) (Upd.refl _ _) (fun _=>rfl) _ _ _;have hs23':=HS23.out;have hno:∀ b,w2.heap.size<=b->¬ b=w.heap.size+1:=fun b hb=>V0
    have Ac:=Hi (show ChkP w (.ok c) (.returned (.tuple #[.agg #[.slice As c.se.length cs,.slice Ap c.pu.length cp,.slice Ao c.ou.length co],.int .i64 0,.int .i64 0])) (put3 wr (w.heap.size+1) (.slice As c.se.length cs) (.slice Ap c.pu.length cp) (.slice Ao c.ou.length co)) from
     ⟨_,_,_,rfl,⟨q2M (ae o5 hun fun b hb=>hno b (av o5 b hb).1) V0,q2M (ae o6 hun fun b hb=>hno b (av o6 b hb).1) V0,q2M (ae o7 hun fun b hb=>hno b (av o7 b hb).1) V0,Az.out⟩,HB7.out.trans (hun.below HB7.out.size fun b hb=>V0)⟩)
    clear hfull hdE hR7 hRR aL hbd hrl hun hno o5 o6 o7 hl5 hl6 hl7 hv5 hv6 hv7 hbk;go_wp2_with fail
    exact bodyPost_ret (v:=.tuple #[.agg #[.slice As c.se.length cs,.slice Ap c.pu.length cp,.slice Ao c.ou.length co],.int .i64 0,.int .i64 0]) (resNmR HRR.out rfl _ rfl) rfl Ac.out
end Nm
end Go.Proofs.YtcgibpdjfgjldaaGreatDoor
