/- DERIVED. PaRead, PaRok, PaTp, NmBd. By an AI agent. -/
import Derived.Test.YtpoepignpdfleaaGreatDoorY01
import Derived.Test.YtpoepignpdfleaaGreatDoorY06
import Derived.Test.YtpoepignpdfleaaGreatDoorY25
import Derived.Test.YtpoepignpdfleaaGreatDoorY09
import Derived.Test.YtpoepignpdfleaaGreatDoorY12
set_option maxRecDepth 100000
set_option maxHeartbeats 8000000
namespace Go.Proofs.YtpoepignpdfleaaGreatDoor.Pa
open Go Go.ChangeShapes Go.WideShapes Go.ChangeAt Go.RowKit Lx Args
set_option linter.unusedVariables false
set_option linter.unusedSimpArgs false
section
attribute [local go_sem] fTk0 fTk1 fTk2
theorem boxes(w:World):∃ w0,((w.alloc (.cells #[.int .i64 0,.string ⟨#[]⟩,.int .u32 0,.int .i64 0,.slice none 0 0,.slice none 0 0] 26)).alloc (.cells #[.int .i64 0] 3)).alloc (.cells #[.int .i64 0] 30)=w0∧Below w.heap.size w w0∧w0.heap.size=w.heap.size+3 ∧
  Blk w0 w.heap.size 26 #[.int .i64 0,.string ⟨#[]⟩,.int .u32 0,.int .i64 0,.slice none 0 0,.slice none 0 0]∧Blk w0 (w.heap.size+1) 3 #[.int .i64 0]∧Blk w0 (w.heap.size+2) 30 #[.int .i64 0]:=by
 refine ⟨_,rfl,(((Below.refl _ _).alloc (Nat.le_refl _) _).alloc (by simp) _).alloc (by simp;omega) _,by simp,((Blk.new _ _ _).alloc _).alloc _,?_,?_⟩
 ·have h:=(Blk.new (w.alloc (.cells #[.int .i64 0,.string ⟨#[]⟩,.int .u32 0,.int .i64 0,.slice none 0 0,.slice none 0 0] 26)) 3 #[.int .i64 0]).alloc (.cells #[.int .i64 0] 30)
  have e:(w.alloc (.cells #[.int .i64 0,.string ⟨#[]⟩,.int .u32 0,.int .i64 0,.slice none 0 0,.slice none 0 0] 26)).heap.size=w.heap.size+1:=by simp
  rw [e] at h;exact h
 ·have h:=Blk.new ((w.alloc (.cells #[.int .i64 0,.string ⟨#[]⟩,.int .u32 0,.int .i64 0,.slice none 0 0,.slice none 0 0] 26)).alloc (.cells #[.int .i64 0] 3)) 30 #[.int .i64 0]
  have e:((w.alloc (.cells #[.int .i64 0,.string ⟨#[]⟩,.int .u32 0,.int .i64 0,.slice none 0 0,.slice none 0 0] 26)).alloc (.cells #[.int .i64 0] 3)).heap.size=w.heap.size+2:=by simp
  rw [e] at h;exact h
theorem res3{g:Nat}{n:Array Value}{a b:Value}{W:World}(hN:Blk W g 26 n)(hs:some 6=some n.size)(hA:Blk W (g+1) 3 #[a])(hE:Blk W (g+2) 30 #[b])(tmps:Array Value)
  (h4:tmps.getD 4 undef = .pointer (some ⟨g,0,none⟩)) (h5:tmps.getD 5 undef = .pointer (some ⟨g+1,0,none⟩)) (h6:tmps.getD 6 undef = .pointer (some ⟨g+2,0,none⟩)) :
  (results Tryz.f26 tmps).run Tryz.prog W = .ok (.tuple #[.agg n,a,b]) W:=
 results_ccc rfl tmps W g (g+1) (g+2) (.agg n) a b h4 h5 h6 (run_loadVar_row W g 26 26 n (0,0) _ hN Tryz.underlying26 rfl (szNd.trans hs)) (loadVar_plain (isAggI W) (hA.cell 0)) (loadVar_plain (isAggE W) (hE.cell 0))
def KA2(g a er:Nat)(w:World):Prop:=w.cell? ⟨g+1,0,none⟩=some (.int .i64 (a:Int))∧w.cell? ⟨g+2,0,none⟩=some (.int .i64 (er:Int))
theorem KA2.of{g a er:Nat}{w:World}(h:Blk w (g+1) 3 #[.int .i64 (a:Int)])(h2:Blk w (g+2) 30 #[.int .i64 (er:Int)]):KA2 g a er w:=⟨h.cell 0,h2.cell 0⟩
theorem read_bad_program(s:ByteArray)(w:World)(h:(wordsL s.data.toList).er≠0) :
  Calls Tryz.prog 26 #[.string s,.func (.func 27) #[] #[]] w (RdP ProgR s w):=by
 obtain ⟨w0,hw0,hb0,hs0,hN,hA,hE⟩:=boxes w
 have hwd:=pwords s w0
 have hnil:=words_err s.data.toList h
 have HBAD:=Hi (show BadR ProgR (wordsL s.data.toList) (wordsL s.data.toList).at_ (wordsL s.data.toList).er from .inl ⟨h,rfl,rfl⟩)
 have hne:(((wordsL s.data.toList).er:Int) != 0)=true:=by simp;omega
 unfold PWordsP at hwd
 obtain ⟨a,ha⟩:∃ a,(wordsL s.data.toList).at_=a:=⟨_,rfl⟩
 obtain ⟨er,her⟩:∃ er,(wordsL s.data.toList).er=er:=⟨_,rfl⟩
 rw [ha,her] at HBAD hwd
 rw [her] at hne
 have HWD:=Hi hwd
 have HB0:=Hi hb0;have HN:=Hi hN;have HA:=Hi hA;have HE:=Hi hE;have HW:=Hi hw0
 obtain ⟨g,hg⟩:∃ g,w.heap.size=g:=⟨_,rfl⟩
 have HG:=Hi hg
 rw [hg] at HN HA HE
 clear hb0 hN hA hE hw0 h hnil hwd ha her
 go_enter Tryz.func26,Tryz.ntmps26
 go_wp2_with fail
 simp only [Nat.add_assoc,Nat.reduceAdd]
 rw [HW.out]
 refine HWD.out.mono ?_
 rintro e w1 ⟨A,c,rfl,hL,hb1,hc1,hc2⟩
 have hN1:=HN.out.below hb1 HN.out.lt
 have hA1:=HA.out.below hb1 HA.out.lt
 have hE1:=HE.out.below hb1 HE.out.lt
 obtain ⟨⟨e0,e1,e2,e3,e4,e5⟩,z0,z1,z2,z3,z4,z5⟩:=Blk.c6 hN1
 have c1:w1.cell? ⟨g+1,0,none⟩=some (.int .i64 0):=hA1.cell 0
 have c2:w1.cell? ⟨g+2,0,none⟩=some (.int .i64 0):=hE1.cell 0
 have f1:=hA1.frozen 0
 have f2:=hE1.frozen 0
 have HN1:=Hi hN1;have HA1:=Hi hA1;have HE1:=Hi hE1;have HB1:=Hi (HB0.out.trans (hb1.mono HB0.out.size))
 clear hN1 hA1 hE1 hL hc1 hc2
 go_upto_region 3 with fail
 obtain ⟨w2,hw2⟩:∃ w2,(w1.setCell ⟨g+1,0,none⟩ (.int .i64 (a:Int))).setCell ⟨g+2,0,none⟩ (.int .i64 (er:Int))=w2:=⟨_,rfl⟩
 have hg01:g≠g+1:=by omega
 have hg02:g≠g+2:=by omega
 have hg12:g+1≠g+2:=by omega
 have hN2:Blk w2.drew g 26 #[.int .i64 0,.string ⟨#[]⟩,.int .u32 0,.int .i64 0,.slice none 0 0,.slice none 0 0]:=by rw [←hw2];exact ((HN1.out.far (p:=⟨g+1,0,none⟩) hg01 _).far (p:=⟨g+2,0,none⟩) hg02 _).drew
 have hA2:Blk w2.drew (g+1) 3 #[.int .i64 (a:Int)]:=by rw [←hw2];exact ((HA1.out.set 0 _).far (p:=⟨g+2,0,none⟩) hg12 _).drew
 have hE2:Blk w2.drew (g+2) 30 #[.int .i64 (er:Int)]:=by rw [←hw2];exact ((HE1.out.far (p:=⟨g+1,0,none⟩) (Ne.symm hg12) _).set 0 _).drew
 have hb2:Below w.heap.size w w2.drew:=by rw [←hw2];exact below_drewN (((HB1.out.setCell (p:=⟨g+1,0,none⟩) (by show w.heap.size≤g+1;omega) _).setCell (p:=⟨g+2,0,none⟩) (by show w.heap.size≤g+2;omega) _)) 1
 rw [hw2]
 clear hw2 e0 e1 e2 e3 e4 e5 z0 z1 z2 z3 z4 z5 c1 c2 f1 f2
 refine HT.wp_region (Z:=fun w'=>KA2 g a er w') (S:=fun _=>True) (st:=[]) (by kernel_rfl) ?_
 obtain ⟨w3,hw3⟩:∃ w3,w2.drew=w3:=⟨_,rfl⟩
 rw [hw3] at hN2 hA2 hE2 hb2 ⊢
 clear hw3
 have hZ0:KA2 g a er w3:=KA2.of hA2 hE2
 refine HT.takeP (i:=0) (v:=?_) rfl (by kernel_rfl) (by kernel_rfl) (by kernel_rfl) (by kernel_rfl) (fun _ _ _ h=>h) (Or.inl ⟨by rfl,?_⟩) hZ0 (fun _=>trivial) ?_
 rotate_left
 ·(intro w hSw;obtain ⟨y0,y1⟩:=hSw;go_simp;try with_reducible rfl)
 (try simp only [HT.pS])
 refine HT.takeP (i:=1) (v:=?_) rfl (by kernel_rfl) (by kernel_rfl) (by kernel_rfl) (by kernel_rfl) (fun _ _ _ h=>h) (Or.inl ⟨by rfl,?_⟩) hZ0 (fun _=>trivial) ?_
 rotate_left
 ·(intro w hSw;obtain ⟨y0,y1⟩:=hSw;go_simp;try with_reducible rfl)
 (try simp only [HT.pS])
 refine HT.takeP (i:=2) (v:=?_) rfl (by kernel_rfl) (by kernel_rfl) (by kernel_rfl) (by kernel_rfl) (fun _ _ _ h=>h) (Or.inl ⟨by rfl,?_⟩) hZ0 (fun _=>trivial) ?_
 rotate_left
 ·(intro w hSw;obtain ⟨y0,y1⟩:=hSw;go_simp;try with_reducible rfl)
 (try simp only [HT.pS])
 obtain ⟨⟨e0,e1,e2,e3,e4,e5⟩,z0,z1,z2,z3,z4,z5⟩:=Blk.c6 hN2
 have c1:w3.cell? ⟨g+1,0,none⟩=some (.int .i64 (a:Int)):=hA2.cell 0
 have c2:w3.cell? ⟨g+2,0,none⟩=some (.int .i64 (er:Int)):=hE2.cell 0
 have f1:=hA2.frozen 0
 have f2:=hE2.frozen 0
 have hA3:Blk _ (g+1) 3 #[.int .i64 (a:Int)]:=put6_far hA2 (Ne.symm hg01) (.int .i64 0) (.string ⟨#[]⟩) (.int .u32 0) (.int .i64 0) (.slice none 0 0) (.slice none 0 0)
 have hE3:Blk _ (g+2) 30 #[.int .i64 (er:Int)]:=put6_far hE2 (Ne.symm hg02) (.int .i64 0) (.string ⟨#[]⟩) (.int .u32 0) (.int .i64 0) (.slice none 0 0) (.slice none 0 0)
 have hN3:=Blk.put6 hN2 (.int .i64 0) (.string ⟨#[]⟩) (.int .u32 0) (.int .i64 0) (.slice none 0 0) (.slice none 0 0)
 have hA4:Blk _ (g+1) 3 #[.int .i64 (a:Int)]:=hA3.set 0 (.int .i64 (a:Int))
 have hE4:=hE3.far (p:=⟨g+1,0,none⟩) (Ne.symm hg12) (.int .i64 (a:Int))
 have hN4:=hN3.far (p:=⟨g+1,0,none⟩) hg01 (.int .i64 (a:Int))
 have hA5:=hA4.far (p:=⟨g+2,0,none⟩) hg12 (.int .i64 (er:Int))
 have hE5:Blk _ (g+2) 30 #[.int .i64 (er:Int)]:=hE4.set 0 (.int .i64 (er:Int))
 have hN5:=hN4.far (p:=⟨g+2,0,none⟩) hg02 (.int .i64 (er:Int))
 have hu5:=((put6_upd (X:=fun b=>g≤b) (Upd.of_below hb2 _) (fun _=>Nat.le_refl g) (.int .i64 0) (.string ⟨#[]⟩) (.int .u32 0) (.int .i64 0) (.slice none 0 0) (.slice none 0 0)).setCell (p:=⟨g+1,0,none⟩) (fun _=>by show g≤g+1;omega) (.int .i64 (a:Int))).setCell (p:=⟨g+2,0,none⟩) (fun _=>by show g≤g+2;omega) (.int .i64 (er:Int))
 have HEND:=Hi (show RdP ProgR s w (.returned (.tuple #[.agg #[.int .i64 0,.string ⟨#[]⟩,.int .u32 0,.int .i64 0,.slice none 0 0,.slice none 0 0],.int .i64 (a:Int),.int .i64 (er:Int)])) _ from .inr ⟨a,er,rfl,HBAD.out,hu5.below (Nat.le_refl _) fun k hk=>by omega⟩)
 refine HT.one (i:=3) (by kernel_rfl) rfl (fun K hK=>?_)
 go_simp
 refine hK.out _ _ (KA2.of hA3 hE3) trivial ?_
 clear hK K
 (try simp only [HT.pS])
 refine HT.one (i:=4) (by kernel_rfl) rfl (fun K hK=>?_)
 go_simp
 refine hK.out _ _ (KA2.of hA4 hE4) trivial ?_
 clear hK K
 (try simp only [HT.pS])
 refine HT.one (i:=5) (by kernel_rfl) rfl (fun K hK=>?_)
 go_simp
 refine hK.out _ _ (KA2.of hA5 hE5) trivial ?_
 clear hK K
 (try simp only [HT.pS])
 refine HT.done (by kernel_rfl) ?_
 dsimp only [Exit.then]
 (try simp only [HT.pS])
 have HN5:=Hi hN5;have HA5:=Hi hA5;have HE5:=Hi hE5
 clear hN2 hA2 hE2 hN3 hA3 hE3 hN4 hA4 hE4 hN5 hA5 hE5 hu5 hb2 hZ0
 go_wp2_with fail
 exact bodyPost_ret (res3 HN5.out rfl HA5.out HE5.out _ rfl rfl rfl) rfl HEND.out
end
section
attribute [local go_sem] fTk0 fTk1 fTk2
theorem one_ne{w:World}{g:Nat}{t:TypeId}{x:Value}(h:Blk w g t #[x]){b o:Nat}{v:Value}(hc:w.cell? ⟨b,o+1,none⟩=some v):b≠g:=by
 rintro rfl
 rw [h.cell (o+1)] at hc
 simp at hc
theorem PS.node{w w':World}{bp d g:Nat}{t:Tk}{r:List Tk}{ty:TypeId}{k a:Int}{s:ByteArray}{n:Int}{A B:Option Addr}{la cA lb cB:Nat}(h:PS w bp (t :: r) d)(hb:Blk w g ty #[.int .i64 k,.string s,.int .u32 n,.int .i64 a,.slice A la cA,.slice B lb cB])(hu:Upd (fun b=>b=g) w w')(hg:bp≠g):PS w' bp (t :: r) d:=by
 obtain ⟨b,o,c,hn,h1,h2,h3,h4⟩:=h
 have hne:b≠g:=by
  rintro rfl
  have e0:=h2 0 _ (show ((t :: r).flatMap tkC)[0]?=some (.int .i64 (t.k:Int)) from rfl)
  have e1:=h2 1 _ (show ((t :: r).flatMap tkC)[1]?=some (.string ⟨t.s.toArray⟩) from rfl)
  have e2:=h2 2 _ (show ((t :: r).flatMap tkC)[2]?=some (.int .i64 (t.at_:Int)) from rfl)
  obtain ⟨a0,q0,e0⟩:=e0;obtain ⟨a1,q1,e1⟩:=e1;obtain ⟨a2,q2,e2⟩:=e2
  cases q0;cases q1;cases q2
  rw [Args.add_plain,hb.cell] at e0 e1 e2
  match o with
  | 0=>simp at e2
  | 1=>simp at e0
  | 2=>simp at e0
  | 3=>simp at e1
  | 4=>simp at e0
  | 5=>simp at e0
  | o+6=>simp at e0
 exact ⟨b,o,c,hn,h1.upd hu hg,hu.lies h2 fun b' o' e _ hx=>by cases e;exact hne hx,h3,h4⟩
theorem read_ok_program(s:ByteArray)(w:World)(h:(wordsL s.data.toList).er = 0) :
  Calls Tryz.prog 26 #[.string s,.func (.func 27) #[] #[]] w (RdP ProgR s w):=by
 obtain ⟨w0,hw0,hb0,hs0,hN,hA,hE⟩:=boxes w
 have hwd:=pwords s w0
 have hgt:=words_gt h
 unfold PWordsP at hwd
 rw [h] at hwd
 obtain ⟨L,hL⟩:∃ L,(wordsL s.data.toList).l=L:=⟨_,rfl⟩
 obtain ⟨at0,ha⟩:∃ a,(wordsL s.data.toList).at_=a:=⟨_,rfl⟩
 rw [hL,ha] at hwd
 rw [hL] at hgt
 have HWD:=Hi hwd
 have HER:=Hi h;have HLL:=Hi hL;have HGT:=Hi hgt
 have HB0:=Hi hb0;have HN:=Hi hN;have HA:=Hi hA;have HE:=Hi hE;have HW:=Hi hw0
 obtain ⟨g,hg⟩:∃ g,w.heap.size=g:=⟨_,rfl⟩
 rw [hg] at HN HA HE
 have hmf:∀ (fn:Fn) (first cap:Array Value) (w:World),(Instr.makeFunc fn first cap).run Tryz.prog w = .ok (.func fn first cap) w:=fun _ _ _ _=>rfl
 clear hb0 hN hA hE hw0 h hwd ha hL hgt
 go_enter_defers Tryz.func26,Tryz.ntmps26
 go_wp2_with fail
 simp only [Nat.add_assoc,Nat.reduceAdd]
 rw [HW.out]
 refine HWD.out.mono ?_
 rintro e w1 ⟨A,c,rfl,hL,hb1,hc1,hc2⟩
 have hN1:=HN.out.below hb1 HN.out.lt
 have hA1:=HA.out.below hb1 HA.out.lt
 have hE1:=HE.out.below hb1 HE.out.lt
 have hEl:=hE1.lt
 obtain ⟨⟨e0,e1,e2,e3,e4,e5⟩,z0,z1,z2,z3,z4,z5⟩:=Blk.c6 hN1
 have c1:w1.cell? ⟨g+1,0,none⟩=some (.int .i64 0):=hA1.cell 0
 have c2:w1.cell? ⟨g+2,0,none⟩=some (.int .i64 0):=hE1.cell 0
 have f1:=hA1.frozen 0
 have f2:=hE1.frozen 0
 have hb01:Below w.heap.size w w1:=HB0.out.trans (hb1.mono HB0.out.size)
 have hg01:g≠g+1:=by omega
 have hg02:g≠g+2:=by omega
 have hg12:g+1≠g+2:=by omega
 obtain ⟨t0,r0,hL0⟩:=HGT.out.cons
 obtain ⟨b,o,rfl,hbl,hcc⟩:=hL.at_ (j:=0) (u:=.int .i64 (t0.k:Int)) (by rw [hL0];rfl)
 have HLI:=Hi hL
 have HN1:=Hi hN1;have HA1:=Hi hA1;have HE1:=Hi hE1;have HB1:=Hi hb01
 have hcc1:=hcc 1 (.string ⟨t0.s.toArray⟩) (by rw [hL0];rfl)
 clear hN1 hA1 hE1 hL hb01 hL0 hcc hb1
 go_wp2_with fail
 obtain ⟨w2,hw2⟩:∃ w2,((w1.setCell ⟨g+1,0,none⟩ (.int .i64 (at0:Int))).setCell ⟨g+2,0,none⟩ (.int .i64 0)).alloc (.cells #[.slice (some ⟨b,o,none⟩) L.length c,.int .i64 0] 92)=w2:=⟨_,rfl⟩
 have hs12:((w1.setCell ⟨g+1,0,none⟩ (.int .i64 (at0:Int))).setCell ⟨g+2,0,none⟩ (.int .i64 0)).heap.size=w1.heap.size:=by simp
 have hu12:Upd (fun k=>k=g+1∨k=g+2) w1 w2:=by rw [←hw2];exact (((Upd.refl (fun k=>k=g+1∨k=g+2) w1).setCell (p:=⟨g+1,0,none⟩) (fun _=>.inl rfl) _).setCell (p:=⟨g+2,0,none⟩) (fun _=>.inr rfl) _).alloc _
 have hN2:Blk w2 g 26 #[.int .i64 0,.string ⟨#[]⟩,.int .u32 0,.int .i64 0,.slice none 0 0,.slice none 0 0]:=HN1.out.upd hu12 (by omega)
 have hA2:Blk w2 (g+1) 3 #[.int .i64 (at0:Int)]:=by rw [←hw2];exact ((HA1.out.set 0 _).far (p:=⟨g+2,0,none⟩) hg12 _).alloc _
 have hE2:Blk w2 (g+2) 30 #[.int .i64 0]:=by rw [←hw2];exact ((HE1.out.far (p:=⟨g+1,0,none⟩) (Ne.symm hg12) _).set 0 _).alloc _
 have hp2:PS w2 w1.heap.size L 0:=by
  refine ⟨b,o,c,hbl,?_,hu12.lies HLI.out fun b' o' e _ hx=>?_,hc1,hc2⟩
  ·rw [←hw2,←hs12];exact Blk.new _ _ _
  ·cases e
   rcases hx with hx | hx
   ·exact one_ne HA1.out hcc1 hx
   ·exact one_ne HE1.out hcc1 hx
 have hu2:Upd (fun k=>g≤k) w w2:=(Upd.of_below HB1.out _).trans (hu12.mono fun k hk=>by omega)
 have HP2:=Hi hp2;have HN2:=Hi hN2;have HA2:=Hi hA2;have HE2:=Hi hE2;have HU2:=Hi hu2
 rw [hw2]
 clear hw2 hu12 hp2 hN2 hA2 hE2 hu2 e0 e1 e2 e3 e4 e5 z0 z1 z2 z3 z4 z5 c1 c2 f1 f2 hs12
 refine (cl_program w2 w1.heap.size L HP2.out HGT.out).mono ?_
 rintro e w3 (⟨k,a,sx,n,A,la,cA,B,lb,cB,x,r,rfl,hT,hR,hP,hG,hr,hU⟩ | ⟨a,er,rfl,hR,hU⟩)
 rotate_left
 ·refine leaves_cons (f:=39) (args:=#[.pointer (some ⟨g,0,none⟩),.pointer (some ⟨g+1,0,none⟩),.pointer (some ⟨g+2,0,none⟩)]) (by simp) (by simp [go_sem]) ?_
  refine (catch_wrong g a er w3 (HN2.out.upd hU (by omega)) (HA2.out.upd hU (by omega)) (HE2.out.upd hU (by omega))).mono ?_
  rintro e u' w4 ⟨rfl,rfl,hN4,hA4,hE4,hU4⟩
  have hu4:Upd (fun k=>g≤k) w w4:=(HU2.out.trans (hU.mono fun k hk=>by omega)).trans hU4
  exact ⟨_,res3 hN4 rfl hA4 hE4 _ rfl rfl rfl,.inr ⟨a,er,rfl,.inr ⟨HER.out,.inl (by rw [HLL.out];exact hR)⟩,hu4.below (Nat.le_refl _) fun k hk=>by omega⟩⟩
 obtain ⟨t,r',rfl⟩:=hG.cons
 have h2g:g+2 < w2.heap.size:=HE2.out.lt
 have hN3:=HN2.out.upd hU (show ¬ g=w1.heap.size by omega)
 have hA3:=HA2.out.upd hU (show ¬ g+1=w1.heap.size by omega)
 have hE3:=HE2.out.upd hU (show ¬ g+2=w1.heap.size by omega)
 obtain ⟨⟨e0,e1,e2,e3,e4,e5⟩,z0,z1,z2,z3,z4,z5⟩:=Blk.c6 hN3
 obtain ⟨w4,hw4⟩:∃ w4,put6 w3 g (.int .i64 (k:Int)) (.string ⟨sx.toArray⟩) (.int .u32 (n:Int)) (.int .i64 (a:Int)) (.slice A la cA) (.slice B lb cB)=w4:=⟨_,rfl⟩
 have hu4:Upd (fun b=>b=g) w3 w4:=by rw [←hw4];exact put6_upd (X:=fun b=>b=g) (Upd.refl _ _) (fun _=>rfl) _ _ _ _ _ _
 have hN4:Blk w4 g 26 #[.int .i64 (k:Int),.string ⟨sx.toArray⟩,.int .u32 (n:Int),.int .i64 (a:Int),.slice A la cA,.slice B lb cB]:=by rw [←hw4];exact Blk.put6 hN3 _ _ _ _ _ _
 have hp4:PS w4 w1.heap.size (t :: r') 0:=PS.node hP hN3 hu4 (by omega)
 have HT4:=Hi (TIn.far hT hu4 fun b hb=>by omega)
 have HU4:=Hi (show Upd (fun k=>g≤k) w w4 from (HU2.out.trans (hU.mono fun k hk=>by omega)).trans (hu4.mono fun k hk=>by omega))
 have HN4:=Hi hN4;have HA4:=Hi (hA3.upd hu4 (by omega));have HE4:=Hi (hE3.upd hu4 (by omega))
 have HR3:=Hi hR;have HP4:=Hi hp4
 have HNX:=Hi (next w4 w1.heap.size 0 t r' hp4)
 simp only [put6] at hw4
 have HW4:=Hi hw4
 clear hw4 hN3 hA3 hE3 hu4 hN4 hp4 hT hR hP hG hU
 go_wp2_with fail
 rw [HW4.out]
 refine HNX.out.mono ?_
 rintro e w5 ⟨rfl,hb5⟩
 clear e0 e1 e2 e3 e4 e5 z0 z1 z2 z3 z4 z5
 have hN5:=HN4.out.below hb5 HN4.out.lt
 have hA5:=HA4.out.below hb5 HA4.out.lt
 have hE5:=HE4.out.below hb5 HE4.out.lt
 have HT5:=Hi (TIn.far HT4.out (Upd.of_below hb5 fun _=>False) (fun _ h=>h.elim))
 have HU5:=Hi (HU4.out.trans (Upd.of_below hb5 _))
 by_cases hk:t.k = 0
 ·have hq:((t.k:Int) != 0)=false:=by simp;omega
  obtain ⟨⟨e0,e1,e2,e3,e4,e5⟩,z0,z1,z2,z3,z4,z5⟩:=Blk.c6 hN5
  have c1:w5.cell? ⟨g+1,0,none⟩=some (.int .i64 (at0:Int)):=hA5.cell 0
  have c2:w5.cell? ⟨g+2,0,none⟩=some (.int .i64 0):=hE5.cell 0
  have f1:=hA5.frozen 0
  have f2:=hE5.frozen 0
  have hN6:=((Blk.put6 hN5 (.int .i64 (k:Int)) (.string ⟨sx.toArray⟩) (.int .u32 (n:Int)) (.int .i64 (a:Int)) (.slice A la cA) (.slice B lb cB)).far (p:=⟨g+1,0,none⟩) hg01 (.int .i64 0)).far (p:=⟨g+2,0,none⟩) hg02 (.int .i64 0)
  have hA6:Blk _ (g+1) 3 #[.int .i64 0]:=((put6_far hA5 (Ne.symm hg01) (.int .i64 (k:Int)) (.string ⟨sx.toArray⟩) (.int .u32 (n:Int)) (.int .i64 (a:Int)) (.slice A la cA) (.slice B lb cB)).set 0 (.int .i64 0)).far (p:=⟨g+2,0,none⟩) hg12 (.int .i64 0)
  have hE6:Blk _ (g+2) 30 #[.int .i64 0]:=((put6_far hE5 (Ne.symm hg02) (.int .i64 (k:Int)) (.string ⟨sx.toArray⟩) (.int .u32 (n:Int)) (.int .i64 (a:Int)) (.slice A la cA) (.slice B lb cB)).far (p:=⟨g+1,0,none⟩) (Ne.symm hg12) (.int .i64 0)).set 0 (.int .i64 0)
  have hu6:Upd (fun k=>g≤k∧k≤g+2) w5 _:=((put6_upd (X:=fun k=>g≤k∧k≤g+2) (Upd.refl _ w5) (fun _=>⟨Nat.le_refl g,by omega⟩) (.int .i64 (k:Int)) (.string ⟨sx.toArray⟩) (.int .u32 (n:Int)) (.int .i64 (a:Int)) (.slice A la cA) (.slice B lb cB)).setCell (p:=⟨g+1,0,none⟩) (fun _=>⟨by show g≤g+1;omega,by show g+1≤g+2;omega⟩) (.int .i64 0)).setCell (p:=⟨g+2,0,none⟩) (fun _=>⟨by show g≤g+2;omega,Nat.le_refl _⟩) (.int .i64 0)
  have HEND:=Hi (show RdP ProgR s w (.returned (.tuple #[.agg #[.int .i64 (k:Int),.string ⟨sx.toArray⟩,.int .u32 (n:Int),.int .i64 (a:Int),.slice A la cA,.slice B lb cB],.int .i64 0,.int .i64 0])) _ from
   .inl ⟨k,a,sx,n,A,la,cA,B,lb,cB,x,t,r',rfl,HER.out,by rw [HLL.out];exact HR3.out,hk,(TIn.far HT5.out hu6 fun b hb=>by omega).up (by omega),(HU5.out.trans (hu6.mono fun k hk=>hk.1)).below (Nat.le_refl _) fun k hk=>by omega⟩)
  have HN6:=Hi hN6;have HA6:=Hi hA6;have HE6:=Hi hE6
  clear hN5 hA5 hE5 hb5 hN6 hA6 hE6 hu6
  go_wp2_with fail
  refine leaves_cons (f:=39) (args:=#[.pointer (some ⟨g,0,none⟩),.pointer (some ⟨g+1,0,none⟩),.pointer (some ⟨g+2,0,none⟩)]) (by simp) (by simp [go_sem]) ?_
  refine (catch_idle ⟨g,0,none⟩ ⟨g+1,0,none⟩ ⟨g+2,0,none⟩ _).mono ?_
  rintro e u' w7 ⟨rfl,rfl,rfl⟩
  exact ⟨_,res3 HN6.out rfl HA6.out HE6.out _ rfl rfl rfl,HEND.out⟩
 ·have hq:((t.k:Int) != 0)=true:=by simp;omega
  have HHR:=Hi (here w5 w1.heap.size 0 t r' 100 (HP4.out.below hb5))
  have HN5:=Hi hN5;have HA5:=Hi hA5;have HE5:=Hi hE5
  clear hN5 hA5 hE5 hb5
  go_wp2_with fail
  refine HHR.out.mono ?_
  rintro e w6 ⟨rfl,hb6⟩
  have HB6:=Hi hb6
  clear hb6
  go_wp2_with fail
  refine leaves_cons (f:=39) (args:=#[.pointer (some ⟨g,0,none⟩),.pointer (some ⟨g+1,0,none⟩),.pointer (some ⟨g+2,0,none⟩)]) (by simp) (by simp [go_sem]) ?_
  refine (catch_wrong g t.at_ 100 w6 (HN5.out.below HB6.out HN5.out.lt) (HA5.out.below HB6.out HA5.out.lt) (HE5.out.below HB6.out HE5.out.lt)).mono ?_
  rintro e u' w7 ⟨rfl,rfl,hN7,hA7,hE7,hU7⟩
  have hu7:Upd (fun k=>g≤k) w w7:=(HU5.out.trans (Upd.of_below HB6.out _)).trans hU7
  exact ⟨_,res3 hN7 rfl hA7 hE7 _ rfl rfl rfl,.inr ⟨t.at_,100,rfl,.inr ⟨HER.out,.inr ⟨_,t,r',by rw [HLL.out];exact HR3.out,hk,rfl,rfl⟩⟩,hu7.below (Nat.le_refl _) fun k hk=>by omega⟩⟩
end
section
attribute [local go_sem] fTk0 fTk1 fTk2
theorem res_ctt{fn:Func}{p u v:Tmp}(h:fn.results = #[.cell p 26,.tmp u,.tmp v])(tmps:Array Value)(W:World){g:Nat}{t:TypeId}{cs:Array Value}(hp:tmps.getD p undef = .pointer (some ⟨g,0,none⟩))(hg:Blk W g t cs)(hs:some 6=some cs.size){x y:Value}(hx:tmps.getD u undef=x)(hy:tmps.getD v undef=y) :
  (results fn tmps).run Tryz.prog W = .ok (.tuple #[.agg cs,x,y]) W:=by
 subst hx;subst hy
 have hp':tmps[p]?.getD undef = .pointer (some ⟨g,0,none⟩):=by simpa using hp
 simp [results,h,hp',asAddr,run_loadVar_row W g t 26 cs (0,0) _ hg Tryz.underlying26 rfl (szNd.trans hs)]
theorem p_program(s:ByteArray)(w:World):Calls Tryz.prog 17 #[.string s] w (RdP ProgR s w):=by
 have hrd:∀ w,Calls Tryz.prog 26 #[.string s,.func (.func 27) #[] #[]] w (RdP ProgR s w):=fun w=>by
  by_cases h:(wordsL s.data.toList).er = 0
  ·exact read_ok_program s w h
  ·exact read_bad_program s w h
 obtain ⟨w0,hw0⟩:∃ w0,w.alloc (.cells #[.int .i64 0,.string ⟨#[]⟩,.int .u32 0,.int .i64 0,.slice none 0 0,.slice none 0 0] 26)=w0:=⟨_,rfl⟩
 have hb0:Below w.heap.size w w0:=by rw [←hw0];exact (Below.refl _ _).alloc (Nat.le_refl _) _
 have hB:Blk w0 w.heap.size 26 #[.int .i64 0,.string ⟨#[]⟩,.int .u32 0,.int .i64 0,.slice none 0 0,.slice none 0 0]:=by rw [←hw0];exact Blk.new _ _ _
 have HR:=Hi (hrd w0)
 have HB0:=Hi hb0;have HB:=Hi hB;have HW:=Hi hw0
 clear hb0 hw0 hB hrd
 go_enter Tryz.func17,Tryz.ntmps17
 go_wp2_with fail
 rw [HW.out]
 refine HR.out.mono ?_
 rintro e w1 (⟨k,a,sx,n,A,la,cA,B,lb,cB,x,t,r,rfl,h1,h2,h3,hT,hb⟩ | ⟨a,er,rfl,hbad,hb⟩)
 ·have hX:=HB.out.below hb HB.out.lt
  have hlt:=hX.lt
  have hlb:=HB.out.lt
  obtain ⟨⟨e0,e1,e2,e3,e4,e5⟩,z0,z1,z2,z3,z4,z5⟩:=Blk.c6 hX
  have hN:=Blk.put6 hX (.int .i64 (k:Int)) (.string ⟨sx.toArray⟩) (.int .u32 (n:Int)) (.int .i64 (a:Int)) (.slice A la cA) (.slice B lb cB)
  have hu:Upd (fun b=>b=w.heap.size) w1 _:=put6_upd (X:=fun b=>b=w.heap.size) (Upd.refl _ w1) (fun _=>rfl) (.int .i64 (k:Int)) (.string ⟨sx.toArray⟩) (.int .u32 (n:Int)) (.int .i64 (a:Int)) (.slice A la cA) (.slice B lb cB)
  have HEND:=Hi (show RdP ProgR s w (.returned (.tuple #[.agg #[.int .i64 (k:Int),.string ⟨sx.toArray⟩,.int .u32 (n:Int),.int .i64 (a:Int),.slice A la cA,.slice B lb cB],.int .i64 0,.int .i64 0])) _ from
   .inl ⟨k,a,sx,n,A,la,cA,B,lb,cB,x,t,r,rfl,h1,h2,h3,(TIn.far hT hu fun b hb=>by omega).up (by omega),((Upd.of_below (HB0.out.trans (hb.mono HB0.out.size)) (fun b=>b=w.heap.size)).trans hu).below (Nat.le_refl _) fun k hk=>by omega⟩)
  have HN:=Hi hN
  clear hX hN hu hT hb h2
  go_wp2_with fail
  exact bodyPost_ret (v:=.tuple #[.agg #[.int .i64 (k:Int),.string ⟨sx.toArray⟩,.int .u32 (n:Int),.int .i64 (a:Int),.slice A la cA,.slice B lb cB],.int .i64 0,.int .i64 0]) (res_ctt rfl _ _ rfl HN.out rfl rfl rfl) rfl HEND.out
 ·have hX:=HB.out.below hb HB.out.lt
  obtain ⟨⟨e0,e1,e2,e3,e4,e5⟩,z0,z1,z2,z3,z4,z5⟩:=Blk.c6 hX
  have hN:=Blk.put6 hX (.int .i64 0) (.string ⟨#[]⟩) (.int .u32 0) (.int .i64 0) (.slice none 0 0) (.slice none 0 0)
  have hu:Upd (fun b=>b=w.heap.size) w1 _:=put6_upd (X:=fun b=>b=w.heap.size) (Upd.refl _ w1) (fun _=>rfl) (.int .i64 0) (.string ⟨#[]⟩) (.int .u32 0) (.int .i64 0) (.slice none 0 0) (.slice none 0 0)
  have HEND:=Hi (show RdP ProgR s w (.returned (.tuple #[.agg #[.int .i64 0,.string ⟨#[]⟩,.int .u32 0,.int .i64 0,.slice none 0 0,.slice none 0 0],.int .i64 (a:Int),.int .i64 (er:Int)])) _ from .inr ⟨a,er,rfl,hbad,((Upd.of_below (HB0.out.trans (hb.mono HB0.out.size)) (fun b=>b=w.heap.size)).trans hu).below (Nat.le_refl _) fun k hk=>by omega⟩)
  have HN:=Hi hN
  clear hX hN hu hb hbad
  go_wp2_with fail
  exact bodyPost_ret (v:=.tuple #[.agg #[.int .i64 0,.string ⟨#[]⟩,.int .u32 0,.int .i64 0,.slice none 0 0,.slice none 0 0],.int .i64 (a:Int),.int .i64 (er:Int)]) (res_ctt rfl _ _ rfl HN.out rfl rfl rfl) rfl HEND.out
end
end Go.Proofs.YtpoepignpdfleaaGreatDoor.Pa
namespace Go.Proofs.YtpoepignpdfleaaGreatDoor.Nm
open Go Lx Pa Sh
set_option linter.unusedVariables false
set_option linter.unusedSimpArgs false
theorem nrun_le(base:Nat):∀ (l:List UInt8) (n m:Nat),n≤4294967296→Num.nrun base l n=some m→m≤4294967296
 | [],n,m,h,e=>by
  unfold Num.nrun at e
  cases e
  exact h
 | c :: l,n,m,h,e=>by
  unfold Num.nrun at e
  split at e
  ·exact nrun_le base l _ m (Nat.min_le_right ..) e
  ·cases e
theorem numV_lt(b:Bs):(numV b).1 < 4294967296:=by
 unfold numV Num.numR
 split
 ·decide
 ·split
  ·decide
  ·next h=>
   have:=nrun_le _ _ _ _ (by decide) h
   split
   ·decide
   ·simp only;omega
def pw:List Bs→Nat
 | []=>0
 | p :: ps=>p.length+1+pw ps
mutual
def wt:Tr→Nat
 | .mk _ _ s _ ps l=>1+s.length+pw ps+wts l
def wts:List Tr→Nat
 | []=>0
 | x :: l=>wt x+wts l
end
def tw:List Tk→Nat
 | []=>0
 | t :: l=>t.s.length+1+tw l
theorem pw_app:∀ (a b:List Bs),pw (a ++ b)=pw a+pw b
 | [],b=>by simp [pw]
 | p :: a,b=>by
  show p.length+1+pw (a ++ b)=p.length+1+pw a+pw b
  rw [pw_app a b];omega
theorem wts_app:∀ (a b:List Tr),wts (a ++ b)=wts a+wts b
 | [],b=>by simp [wts]
 | x :: a,b=>by
  show wt x+wts (a ++ b)=wt x+wts a+wts b
  rw [wts_app a b];omega
theorem wt_put(x:Tr)(a:Nat):wt (x.put a)=wt x:=by cases x;rfl
theorem wts_put(a:Nat):∀ l:List Tr,wts (l.map (·.put a))=wts l
 | []=>rfl
 | x :: l=>by
  show wt (x.put a)+wts (l.map _)=wt x+wts l
  rw [wt_put,wts_put a l]
def baseN:NT→Nat
 | .more _ x=>wt x
 | .args l=>wts l
 | .fin _ _ s ps=>1+s.length+pw ps
 | .inners l=>wts l
 | .stmts l=>wts l
 | _=>0
def sglN:NT→Prop
 | .lev _=>True
 | .more _ _=>True
 | _=>False
def Ct(p:Prop)(b:Nat):OO→Prop
 | some (.ok xs r)=>wts xs+tw r≤b∧(p→∃ x l,xs=x :: l)
 | _=>True
section
variable {p p' : Prop} {b b' : Nat}
theorem ct_wrong(l:List Tk)(e:Nat):Ct p b (wrong l e):=trivial
theorem ct_if{c:Prop}[Decidable c]{o q:OO}(h1:c→Ct p b o)(h2:¬ c→Ct p b q):Ct p b (if c then o else q):=by
 by_cases h:c
 ·rw [if_pos h];exact h1 h
 ·rw [if_neg h];exact h2 h
theorem ct_bnd{o:OO}{f:List Tr→List Tk→OO}(h:Ct p b o)(hf:∀ xs r,wts xs+tw r≤b→(p→∃ x l,xs=x :: l)→Ct p' b' (f xs r)):Ct p' b' (bnd o f):=by
 rcases o with _ | ⟨xs,r⟩ | ⟨a,e⟩
 ·trivial
 ·exact hf xs r h.1 h.2
 ·trivial
theorem ct_up{o:OO}(h:Ct p b o)(hb:b≤b')(hp:p'→p):Ct p' b' o:=by
 rcases o with _ | ⟨xs,r⟩ | ⟨a,e⟩
 ·trivial
 ·exact ⟨Nat.le_trans h.1 hb,fun h'=>h.2 (hp h')⟩
 ·trivial
theorem ct_ok{xs:List Tr}{r:List Tk}(h:wts xs+tw r≤b)(hp:p→∃ x l,xs=x :: l):Ct p b (some (.ok xs r)):=⟨h,hp⟩
theorem ct_must{s:Bs}{l:List Tk}{f:List Tk→OO}(hf:∀ r,tw r+1≤tw l→Ct p b (f r)):Ct p b (must s l f):=by
 cases l with
 | nil=>trivial
 | cons t r=>exact ct_if (fun _=>hf r (by show tw r+1≤t.s.length+1+tw r;omega)) fun _=>ct_wrong _ _
theorem ct_name{l:List Tk}{f:Bs→List Tk→OO}(hf:∀ s r,s.length+1+tw r=tw l→Ct p b (f s r)):Ct p b (nameK l f):=by
 cases l with
 | nil=>trivial
 | cons t r=>exact ct_if (fun hk=>hf t.s r rfl) fun _=>ct_wrong _ _
theorem ct_names{f:List Bs→List Tk→OO}{c:Nat}(hf:∀ ps r,pw ps+tw r≤c→Ct p b (f ps r)):∀ (ps:List Bs) (l:List Tk),pw ps+tw l≤c→Ct p b (namesK ps l f)
 | _,[],_=>trivial
 | ps,[t],h=>by
  unfold namesK
  refine ct_if (fun hk=>hf _ _ ?_) fun _=>ct_wrong _ _
  rw [pw_app]
  have:tw [t]=t.s.length+1+tw []:=rfl
  show pw ps+(t.s.length+1+0)+tw []≤c
  omega
 | ps,t :: u :: r,h=>by
  unfold namesK
  have e:tw (t :: u :: r)=t.s.length+1+(u.s.length+1+tw r):=rfl
  have e2:pw (ps ++ [t.s])=pw ps+(t.s.length+1+0):=pw_app _ _
  have e3:tw (u :: r)=u.s.length+1+tw r:=rfl
  refine ct_if (fun hk=>ct_if (fun _=>ct_names hf _ r (by omega)) fun _=>hf _ _ (by omega)) fun _=>ct_wrong _ _
end
theorem wts_one(x:Tr):wts [x]=wt x:=by show wt x+0=_;omega
theorem tw_cons(t:Tk)(l:List Tk):tw (t :: l)=t.s.length+1+tw l:=rfl
theorem wts_cons(x:Tr)(l:List Tr):wts (x :: l)=wt x+wts l:=rfl
theorem wt_mk(k a:Nat)(s:Bs)(n:Nat)(ps:List Bs)(l:List Tr):wt (.mk k a s n ps l) = 1+s.length+pw ps+wts l:=rfl
theorem pw_nil:pw [] = 0:=rfl
theorem wts_nil:wts [] = 0:=rfl
theorem pF_much{num:Bs→Nat×Nat}:∀ (f:Nat) (nt:NT) (d:Nat) (l:List Tk),Ct (sglN nt) (baseN nt+tw l) (pF num f nt d l):=by
 intro f
 induction f with
 | zero=>intros;trivial
 | succ f ih=>
  intro nt d l
  cases nt with
  | lev n=>
   unfold pF
   refine ct_if (fun _=>ct_bnd (ih (.lev (n+1)) _ _) fun xs r hx hs=>?_) fun _=>?_
   ·obtain ⟨x,m,rfl⟩:=hs trivial
    refine ct_up (ih (.more n x) _ _) ?_ (fun h=>h)
    simp only [baseN,wts_cons] at hx ⊢
    omega
   cases l with
   | nil=>trivial
   | cons t r=>
   refine ct_if (fun _=>ct_wrong _ _) fun _=>ct_if (fun hs=>?_) fun _=>ct_if (fun hk=>?_) fun _=>ct_if (fun hs=>?_) fun _=>ct_name fun s r hs=>?_
   ·refine ct_bnd (ih (.lev 5) _ _) fun xs r' hx _=>⟨?_,fun _=>⟨_,_,rfl⟩⟩
    simp only [baseN] at hx
    simp only [baseN,wts_one,wt_mk,tw_cons,pw_nil]
    omega
   ·refine ct_if (fun _=>⟨?_,fun _=>⟨_,_,rfl⟩⟩) fun _=>ct_wrong _ _
    simp only [baseN,wts_one,wt_mk,tw_cons,pw_nil,wts_nil,List.length_nil]
    omega
   ·refine ct_bnd (ih (.lev 0) _ _) fun xs r' hx hs=>ct_must fun r2 hr2=>⟨?_,fun _=>?_⟩
    ·rw [wts_put]
     simp only [baseN] at hx
     simp only [baseN,tw_cons]
     omega
    ·obtain ⟨x,m,rfl⟩:=hs trivial
     exact ⟨_,_,rfl⟩
   ·cases r with
    | nil=>
     refine ⟨?_,fun _=>⟨_,_,rfl⟩⟩
     simp only [baseN,wts_one,wt_mk,pw_nil,wts_nil]
     omega
    | cons u r'=>
     refine ct_if (fun hu=>?_) fun _=>⟨?_,fun _=>⟨_,_,rfl⟩⟩
     ·refine ct_bnd (ih (.lev 0) _ _) fun xs r2 hx _=>ct_bnd (ih (.args xs) _ _) fun ys r3 hy _=>ct_must fun r4 hr4=>⟨?_,fun _=>⟨_,_,rfl⟩⟩
      simp only [baseN] at hx hy
      simp only [tw_cons] at hs
      simp only [baseN,wts_one,wt_mk,pw_nil,tw_cons]
      omega
     ·simp only [baseN,wts_one,wt_mk,pw_nil,wts_nil]
      omega
  | more n x=>
   unfold pF
   cases l with
   | nil=>exact ⟨by simp only [baseN,wts_one];omega,fun _=>⟨_,_,rfl⟩⟩
   | cons t r=>
    refine ct_if (fun hs=>ct_bnd (ih (.lev (n+1)) _ _) fun ys r' hy _=>?_) fun _=>⟨by simp only [baseN,wts_one];omega,fun _=>⟨_,_,rfl⟩⟩
    refine ct_up (ih (.more n (.mk (if n = 3 then 4 else 3) x.place t.s 0 [] (x :: ys))) d r') ?_ (fun h=>h)
    simp only [baseN] at hy
    simp only [baseN,wt_mk,wts_cons,pw_nil,tw_cons]
    omega
  | args xs=>
   unfold pF
   cases l with
   | nil=>exact ⟨by simp only [baseN];omega,fun h=>h.elim⟩
   | cons t r=>
    refine ct_if (fun hs=>ct_bnd (ih (.lev 0) _ _) fun ys r' hy _=>?_) fun _=>⟨by simp only [baseN];omega,fun h=>h.elim⟩
    refine ct_up (ih (.args (xs ++ ys)) d r') ?_ (fun h=>h)
    simp only [baseN] at hy
    simp only [baseN,wts_app,tw_cons]
    omega
  | fin k a s ps=>
   unfold pF
   refine ct_bnd (ih (.lev 0) _ _) fun xs r hx _=>ct_must fun r' hr'=>⟨?_,fun h=>h.elim⟩
   simp only [baseN] at hx
   simp only [baseN,wts_one,wt_mk]
   omega
  | inner=>
   unfold pF
   cases l with
   | nil=>trivial
   | cons t r=>
    refine ct_if (fun _=>ct_wrong _ _) fun _=>ct_if (fun hs=>?_) fun _=>ct_name fun s r hs=>ct_must fun r2 hr2=>?_
    ·refine ct_name fun s r1 hs=>ct_must fun r2 h2=>ct_bnd (ih (.lev 0) _ _) fun xs r3 hx _=>ct_must fun r4 h4=>ct_bnd (ih (.lev 0) _ _) fun ys r5 hy _=>ct_must fun r6 h6=>ct_bnd (ih (.inners (xs ++ ys)) _ _) fun zs r7 hz _=>⟨?_,fun h=>h.elim⟩
     simp only [baseN,wts_app] at hx hy hz
     simp only [baseN,wts_one,wt_mk,pw_nil,tw_cons]
     omega
    ·refine ct_up (ih (.fin 10 t.at_ s []) d r2) ?_ (fun h=>h)
     simp only [baseN,pw_nil]
     omega
  | inners zs=>
   unfold pF
   cases l with
   | nil=>trivial
   | cons t r=>
    refine ct_if (fun _=>⟨?_,fun h=>h.elim⟩) fun _=>ct_bnd (ih .inner _ _) fun xs r' hx _=>?_
    ·simp only [baseN,tw_cons];omega
    ·refine ct_up (ih (.inners (zs ++ xs)) d r') ?_ (fun h=>h)
     simp only [baseN] at hx
     simp only [baseN,wts_app]
     omega
  | stmt=>
   unfold pF
   cases l with
   | nil=>trivial
   | cons t r=>
    have fin:∀ (k:Nat) (s:Bs) (ps:List Bs) (r2:List Tk),1+s.length+pw ps+tw r2≤tw (t :: r)→Ct (sglN .stmt) (baseN .stmt+tw (t :: r)) (pF num f (.fin k t.at_ s ps) d r2):=fun k s ps r2 h=>ct_up (ih (.fin k t.at_ s ps) d r2) (by simp only [baseN];omega) (fun h=>h)
    have e0:=tw_cons t r
    refine ct_if (fun _=>?_) fun _=>ct_if (fun _=>?_) fun _=>ct_if (fun _=>?_) fun _=>ct_if (fun _=>?_) fun _=>ct_if (fun _=>?_) fun _=>?_
    ·exact ct_names (c:=tw r) (fun ps r1 h1=>ct_must fun r2 h2=>ct_ok (by simp only [baseN,wts_one,wt_mk,wts_nil,List.length_nil];omega) fun h=>h.elim) [] r (by simp only [pw_nil];omega)
    ·exact ct_names (c:=tw r) (fun ps r1 h1=>ct_must fun r2 h2=>ct_ok (by simp only [baseN,wts_one,wt_mk,wts_nil,List.length_nil];omega) fun h=>h.elim) [] r (by simp only [pw_nil];omega)
    ·exact ct_name fun s r1 h1=>ct_must fun r2 h2=>fin 8 s [] r2 (by simp only [pw_nil];omega)
    ·exact ct_name fun s r1 h1=>ct_must fun r2 h2=>fin 9 s [] r2 (by simp only [pw_nil];omega)
    ·exact ct_name fun s r1 h1=>ct_must fun r2 h2=>ct_names (c:=tw r2) (fun ps r3 h3=>ct_must fun r4 h4=>ct_must fun r5 h5=>fin 12 s ps r5 (by omega)) [] r2 (by simp only [pw_nil];omega)
    ·exact ct_up (ih .inner 0 (t :: r)) (by simp only [baseN];omega) (fun h=>h)
  | stmts xs=>
   unfold pF
   cases l with
   | nil=>trivial
   | cons t r=>
    refine ct_if (fun _=>⟨by simp only [baseN];omega,fun h=>h.elim⟩) fun _=>ct_bnd (ih .stmt _ _) fun ys r' hy _=>?_
    refine ct_up (ih (.stmts (xs ++ ys)) d r') ?_ (fun h=>h)
    simp only [baseN] at hy
    simp only [baseN,wts_app]
    omega
theorem tw_le(b:Nat):∀ (l:List Tk),(∀ t∈l,t.s.length≤b)→tw l≤l.length * (b+1)
 | [],_=>by simp [tw]
 | t :: l,h=>by
  have h1:=tw_le b l fun u hu=>h u (by simp [hu])
  have h2:=h t (by simp)
  rw [tw_cons,List.length_cons,Nat.succ_mul]
  omega
theorem tw_words{s:Bs}(h:(wordsL s).er = 0):tw (wordsL s).l≤80004000:=by
 obtain ⟨_,h2,h3⟩:=words_gt h
 have h1:=tw_le 20000 (wordsL s).l fun t ht=>(h2 t ht).2
 have:(wordsL s).l.length * 20001≤4000 * 20001:=Nat.mul_le_mul_right _ h3
 omega
theorem pw_mem:∀ {ps:List Bs} {p:Bs},p∈ps→p.length≤pw ps
 | q :: ps,p,h=>by
  show _≤q.length+1+pw ps
  rcases List.mem_cons.1 h with rfl | h
  ·omega
  ·have:=pw_mem h;omega
theorem pw_len:∀ ps:List Bs,ps.length≤pw ps
 | []=>Nat.le_refl _
 | p :: ps=>by
  have:=pw_len ps
  show ps.length+1≤p.length+1+pw ps
  omega
mutual
theorem lenz_wt:∀ (x:Tr),wt x≤maxLen→lenz (embz x)
 | .mk k a s n ps l,h=>by
  rw [wt_mk] at h
  unfold embz lenz
  exact ⟨by omega,fun p hp=>by have:=pw_mem hp;omega,lenzs_wt l (by omega)⟩
theorem lenzs_wt:∀ (l:List Tr),wts l≤maxLen→lenzs (embs l)
 | [],_=>by unfold embs lenzs;trivial
 | x :: l,h=>by
  rw [wts_cons] at h
  unfold embs lenzs
  exact ⟨lenz_wt x (by omega),lenzs_wt l (by omega)⟩
end
mutual
theorem nbz_wt:∀ (x:Tr),nbz (embz x)≤wt x
 | .mk k a s n ps l=>by
  rw [wt_mk]
  have:=nbzs_wt l
  have:=pw_len ps
  unfold embz nbz
  omega
theorem nbzs_wt:∀ (l:List Tr),nbzs (embs l)≤wts l
 | []=>by unfold embs nbzs;exact Nat.zero_le _
 | x :: l=>by
  rw [wts_cons]
  have:=nbz_wt x
  have:=nbzs_wt l
  unfold embs nbzs
  omega
end
theorem prog_z{s:Bs}{x:Tr}{t:Tk}{r:List Tk}(he:(wordsL s).er = 0)(h:ProgR (wordsL s).l (.ok [x] (t :: r))):lenz (embz x)∧nbz (embz x)≤1099511627776∧okPs 0 (lz (embz x)):=by
 obtain ⟨zs,e1,h1,_⟩:=h
 simp only [List.cons.injEq,and_true] at e1
 subst e1
 obtain ⟨f,hf⟩:=h1.at_
 have hm:=pF_much (num:=numV) f (.stmts []) 0 (wordsL s).l
 rw [hf] at hm
 have hw:=tw_words he
 have hm1:=hm.1
 have hwz:wts zs≤80004000:=by
  have:baseN (.stmts []) = 0:=rfl
  omega
 refine ⟨lenz_wt _ ?_,?_,?_⟩
 ·rw [wt_mk];simp only [pw_nil,List.length_nil];unfold maxLen;omega
 ·have:=nbz_wt (.mk 13 (hdA (wordsL s).l) [] 0 [] zs)
  rw [wt_mk] at this
  simp only [pw_nil,List.length_nil] at this
  omega
 ·have hg:=pF_made (num:=numV) (Q:=fun _=>True) numV_lt f (.stmts []) 0 (wordsL s).l trivial (fun _ _ _=>trivial)
  rw [hf] at hg
  obtain ⟨ys,e,hy⟩:=hg.1
  have:zs=ys:=by simpa using e
  subst this
  show okPs 0 (embs zs)
  exact okPs_gT hy
theorem prog_one{l:List Tk}{x x':Tr}{t t':Tk}{r r':List Tk}(h:ProgR l (.ok [x] (t :: r)))(h':ProgR l (.ok [x'] (t' :: r'))):x=x':=by
 obtain ⟨zs,e1,h1,_⟩:=h
 obtain ⟨zs',e2,h2,_⟩:=h'
 have:=Rd.one h1 h2
 cases this
 simp only [List.cons.injEq,and_true] at e1 e2
 rw [e1,e2]
theorem prog_ok_bad{l:Wd}{x:Tr}{t:Tk}{r:List Tk}{a er:Nat}(he:l.er = 0)(h:ProgR l.l (.ok [x] (t :: r)))(h':BadR ProgR l a er):False:=by
 obtain ⟨zs,e1,h1,t1,r1,e2,hk⟩:=h
 rcases h' with ⟨h,_⟩ | ⟨_,h | ⟨xs,t',r',h,hk',_⟩⟩
 ·exact h he
 ·have:=Rd.one (show Rd numV (.stmts []) 0 l.l (.bad a er) from h) h1
  cases this
 ·obtain ⟨zs',e3,h3,_⟩:=h
  have:=Rd.one h1 h3
  simp only [Out.ok.injEq] at this
  rw [e2] at this
  cases this.2
  exact hk' hk
theorem prog_bad{l:Wd}{a er a' er':Nat}(h:BadR ProgR l a er)(h':BadR ProgR l a' er'):a=a'∧er=er':=by
 rcases h with ⟨h1,rfl,rfl⟩ | ⟨h1,h | ⟨xs,t,r,h,hk,rfl,rfl⟩⟩ <;> rcases h' with ⟨h2,rfl,rfl⟩ | ⟨h2,h' | ⟨xs',t',r',h',hk',rfl,rfl⟩⟩
 ·exact ⟨rfl,rfl⟩
 ·exact absurd h2 h1
 ·exact absurd h2 h1
 ·exact absurd h1 h2
 ·have:=Rd.one (show Rd numV (.stmts []) 0 l.l (.bad a er) from h) (show Rd numV (.stmts []) 0 l.l (.bad a' er') from h')
  cases this
  exact ⟨rfl,rfl⟩
 ·obtain ⟨zs',e3,h3,t3,r3,e4,hk3⟩:=h'
  simp only [List.cons.injEq] at e4
  rw [e4.1] at hk'
  exact absurd hk3 hk'
 ·exact absurd h1 h2
 ·obtain ⟨zs',e3,h3,t3,r3,e4,hk3⟩:=h
  simp only [List.cons.injEq] at e4
  rw [e4.1] at hk
  exact absurd hk3 hk
 ·obtain ⟨zs',e3,h3,t3,r3,e4,hk3⟩:=h
  simp only [List.cons.injEq] at e4
  rw [e4.1] at hk
  exact absurd hk3 hk
theorem prog_er{s:Bs}{a er:Nat}(h:BadR ProgR (wordsL s) a er):er≠0:=by
 rcases h with ⟨h,_,rfl⟩ | ⟨h0,h | ⟨_,_,_,_,_,_,rfl⟩⟩
 ·exact h
 ·obtain ⟨f,hf⟩:=(show Rd numV (.stmts []) 0 (wordsL s).l (.bad a er) from h).at_
  have:=(tells h0 hf).2
  omega
 ·decide
end Go.Proofs.YtpoepignpdfleaaGreatDoor.Nm
