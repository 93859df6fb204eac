/- DERIVED. PaRead, PaRok, PaTp. By an AI agent. -/
import Derived.Test.YtdhoemlomojfaaaGreatDoorW01
import Derived.Test.YtdhoemlomojfaaaGreatDoorW03
import Derived.Test.YtdhoemlomojfaaaGreatDoorW39
set_option maxRecDepth 100000
set_option maxHeartbeats 8000000
set_option linter.unusedVariables false
set_option linter.unusedSimpArgs false
namespace Go.Proofs.YtdhoemlomojfaaaGreatDoor.Pa
open Go Go.ChangeShapes Go.WideShapes Go.ChangeAt Go.RowKit Lx Args
section
attribute [local go_sem] fTk0 fTk1 fTk2
theorem boxes(w:World):∃ w0,((w.alloc (.cells #[.int .i64 0,.string ⟨#[]⟩,.int .u32 0,.int .i64 0,.slice none 0 0,.slice none 0 0] 62)).alloc (.cells #[.int .i64 0] 3)).alloc (.cells #[.int .i64 0] 47)=w0∧Below w.heap.size w w0∧w0.heap.size=w.heap.size+3 ∧
  Blk w0 w.heap.size 62 #[.int .i64 0,.string ⟨#[]⟩,.int .u32 0,.int .i64 0,.slice none 0 0,.slice none 0 0]∧Blk w0 (w.heap.size+1) 3 #[.int .i64 0]∧Blk w0 (w.heap.size+2) 47 #[.int .i64 0]:=by
 refine ⟨_,rfl,(((Below.refl _ _).alloc (Nat.le_refl _) _).alloc (by simp) _).alloc (by simp;omega) _,by simp,((Blk.new _ _ _).alloc _).alloc _,?_,?_⟩
 ·have h:=(Blk.new (w.alloc (.cells #[.int .i64 0,.string ⟨#[]⟩,.int .u32 0,.int .i64 0,.slice none 0 0,.slice none 0 0] 62)) 3 #[.int .i64 0]).alloc (.cells #[.int .i64 0] 47);have e:(w.alloc (.cells #[.int .i64 0,.string ⟨#[]⟩,.int .u32 0,.int .i64 0,.slice none 0 0,.slice none 0 0] 62)).heap.size=w.heap.size+1:=by simp
  rw [e] at h;exact h
 ·have h:=Blk.new ((w.alloc (.cells #[.int .i64 0,.string ⟨#[]⟩,.int .u32 0,.int .i64 0,.slice none 0 0,.slice none 0 0] 62)).alloc (.cells #[.int .i64 0] 3)) 47 #[.int .i64 0];have e:((w.alloc (.cells #[.int .i64 0,.string ⟨#[]⟩,.int .u32 0,.int .i64 0,.slice none 0 0,.slice none 0 0] 62)).alloc (.cells #[.int .i64 0] 3)).heap.size=w.heap.size+2:=by simp
  rw [e] at h;exact h
theorem res3{g:Nat}{n:Array Value}{a b:Value}{W:World}(hN:Blk W g 62 n)(hs:some 6=some n.size)(hA:Blk W (g+1) 3 #[a])(hE:Blk W (g+2) 47 #[b])(tmps:Array Value)
  (h4:tmps.getD 4 undef = .pointer (some ⟨g,0,none⟩)) (h5:tmps.getD 5 undef = .pointer (some ⟨g+1,0,none⟩)) (h6:tmps.getD 6 undef = .pointer (some ⟨g+2,0,none⟩)) :
  (results Tryz.f54 tmps).run Tryz.prog W = .ok (.tuple #[.agg n,a,b]) W:=
 results_ccc rfl tmps W g (g+1) (g+2) (.agg n) a b h4 h5 h6 (run_loadVar_row W g 62 62 n (0,0) _ hN Tryz.underlying62 rfl (szNd.trans hs)) (loadVar_plain (isAggI W) (hA.cell 0)) (loadVar_plain (isAggE W) (hE.cell 0))
def KA2(g a er:Nat)(w:World):Prop:=w.cell? ⟨g+1,0,none⟩=some (.int .i64 (a:Int))∧w.cell? ⟨g+2,0,none⟩=some (.int .i64 (er:Int))
theorem KA2.of{g a er:Nat}{w:World}(h:Blk w (g+1) 3 #[.int .i64 (a:Int)])(h2:Blk w (g+2) 47 #[.int .i64 (er:Int)]):KA2 g a er w:=⟨h.cell 0,h2.cell 0⟩
theorem read_bad_program(s:ByteArray)(w:World)(h:(wordsL s.data.toList).er≠0) :
  Calls Tryz.prog 54 #[.string s,.func (.func 55) #[] #[]] w (RdP ProgR s w):=by
 obtain ⟨w0,hw0,hb0,hs0,hN,hA,hE⟩:=boxes w;have hwd:=pwords s w0;have hnil:=words_err s.data.toList h;have HBAD:=Hi (show BadR ProgR (wordsL s.data.toList) (wordsL s.data.toList).at_ (wordsL s.data.toList).er from .inl ⟨h,rfl,rfl⟩);have hne:(((wordsL s.data.toList).er:Int) != 0)=true:=by simp;omega
 unfold PWordsP at hwd;obtain ⟨a,ha⟩:∃ a,(wordsL s.data.toList).at_=a:=⟨_,rfl⟩;obtain ⟨er,her⟩:∃ er,(wordsL s.data.toList).er=er:=⟨_,rfl⟩;rw [ha,her] at HBAD hwd;rw [her] at hne;have HWD:=Hi hwd;have HB0:=Hi hb0;have HN:=Hi hN;have HA:=Hi hA;have HE:=Hi hE;have HW:=Hi hw0;obtain ⟨g,hg⟩:∃ g,w.heap.size=g:=⟨_,rfl⟩;have HG:=Hi hg;rw [hg] at HN HA HE;clear hb0 hN hA hE hw0 h hnil hwd ha her;go_enter Tryz.func54,Tryz.ntmps54;go_wp2_with fail
 simp only [Nat.add_assoc,Nat.reduceAdd];rw [HW.out];refine HWD.out.mono ?_;rintro e w1 ⟨A,c,rfl,hL,hb1,hc1,hc2⟩;have hN1:=HN.out.below hb1 HN.out.lt;have hA1:=HA.out.below hb1 HA.out.lt;have hE1:=HE.out.below hb1 HE.out.lt;obtain ⟨⟨e0,e1,e2,e3,e4,e5⟩,z0,z1,z2,z3,z4,z5⟩:=Blk.c6 hN1;have c1:w1.cell? ⟨g+1,0,none⟩=some (.int .i64 0):=hA1.cell 0;have c2:w1.cell? ⟨g+2,0,none⟩=some (.int .i64 0):=hE1.cell 0;have f1:=hA1.frozen 0;have f2:=hE1.frozen 0;have HN1:=Hi hN1;have HA1:=Hi hA1;have HE1:=Hi hE1;have HB1:=Hi (HB0.out.trans (hb1.mono HB0.out.size));clear hN1 hA1 hE1 hL hc1 hc2;go_upto_region 3 with fail
 obtain ⟨w2,hw2⟩:∃ w2,(w1.setCell ⟨g+1,0,none⟩ (.int .i64 (a:Int))).setCell ⟨g+2,0,none⟩ (.int .i64 (er:Int))=w2:=⟨_,rfl⟩;have hg01:g≠g+1:=by omega
 have hg02:g≠g+2:=by omega
 have hg12:g+1≠g+2:=by omega
 have hN2:Blk w2.drew g 62 #[.int .i64 0,.string ⟨#[]⟩,.int .u32 0,.int .i64 0,.slice none 0 0,.slice none 0 0]:=by rw [←hw2];exact ((HN1.out.far (p:=⟨g+1,0,none⟩) hg01 _).far (p:=⟨g+2,0,none⟩) hg02 _).drew
 have hA2:Blk w2.drew (g+1) 3 #[.int .i64 (a:Int)]:=by rw [←hw2];exact ((HA1.out.set 0 _).far (p:=⟨g+2,0,none⟩) hg12 _).drew
 have hE2:Blk w2.drew (g+2) 47 #[.int .i64 (er:Int)]:=by rw [←hw2];exact ((HE1.out.far (p:=⟨g+1,0,none⟩) (Ne.symm hg12) _).set 0 _).drew
 have hb2:Below w.heap.size w w2.drew:=by rw [←hw2];exact below_drewN (((HB1.out.setCell (p:=⟨g+1,0,none⟩) (by show w.heap.size≤g+1;omega) _).setCell (p:=⟨g+2,0,none⟩) (by show w.heap.size≤g+2;omega) _)) 1
 rw [hw2];clear hw2 e0 e1 e2 e3 e4 e5 z0 z1 z2 z3 z4 z5 c1 c2 f1 f2;refine HT.wp_region (Z:=fun w'=>KA2 g a er w') (S:=fun _=>True) (st:=[]) (by kernel_rfl) ?_;obtain ⟨w3,hw3⟩:∃ w3,w2.drew=w3:=⟨_,rfl⟩;rw [hw3] at hN2 hA2 hE2 hb2 ⊢;clear hw3;have hZ0:KA2 g a er w3:=KA2.of hA2 hE2;refine HT.takeP (i:=0) (v:=?_) rfl (by kernel_rfl) (by kernel_rfl) (by kernel_rfl) (by kernel_rfl) (fun _ _ _ h=>h) (Or.inl ⟨by rfl,?_⟩) hZ0 (fun _=>trivial) ?_;rotate_left
 ·(intro w hSw;obtain ⟨y0,y1⟩:=hSw;go_simp;try with_reducible rfl)
 (try simp only [HT.pS]);refine HT.takeP (i:=1) (v:=?_) rfl (by kernel_rfl) (by kernel_rfl) (by kernel_rfl) (by kernel_rfl) (fun _ _ _ h=>h) (Or.inl ⟨by rfl,?_⟩) hZ0 (fun _=>trivial) ?_;rotate_left
 ·(intro w hSw;obtain ⟨y0,y1⟩:=hSw;go_simp;try with_reducible rfl)
 (try simp only [HT.pS]);refine HT.takeP (i:=2) (v:=?_) rfl (by kernel_rfl) (by kernel_rfl) (by kernel_rfl) (by kernel_rfl) (fun _ _ _ h=>h) (Or.inl ⟨by rfl,?_⟩) hZ0 (fun _=>trivial) ?_;rotate_left
 ·(intro w hSw;obtain ⟨y0,y1⟩:=hSw;go_simp;try with_reducible rfl)
 (try simp only [HT.pS]);obtain ⟨⟨e0,e1,e2,e3,e4,e5⟩,z0,z1,z2,z3,z4,z5⟩:=Blk.c6 hN2;have c1:w3.cell? ⟨g+1,0,none⟩=some (.int .i64 (a:Int)):=hA2.cell 0;have c2:w3.cell? ⟨g+2,0,none⟩=some (.int .i64 (er:Int)):=hE2.cell 0;have f1:=hA2.frozen 0;have f2:=hE2.frozen 0;have hA3:Blk _ (g+1) 3 #[.int .i64 (a:Int)]:=put6_far hA2 (Ne.symm hg01) (.int .i64 0) (.string ⟨#[]⟩) (.int .u32 0) (.int .i64 0) (.slice none 0 0) (.slice none 0 0);have hE3:Blk _ (g+2) 47 #[.int .i64 (er:Int)]:=put6_far hE2 (Ne.symm hg02) (.int .i64 0) (.string ⟨#[]⟩) (.int .u32 0) (.int .i64 0) (.slice none 0 0) (.slice none 0 0);have hN3:=Blk.put6 hN2 (.int .i64 0) (.string ⟨#[]⟩) (.int .u32 0) (.int .i64 0) (.slice none 0 0) (.slice none 0 0);have hA4:Blk _ (g+1) 3 #[.int .i64 (a:Int)]:=hA3.set 0 (.int .i64 (a:Int));have hE4:=hE3.far (p:=⟨g+1,0,none⟩) (Ne.symm hg12) (.int .i64 (a:Int));have hN4:=hN3.far (p:=⟨g+1,0,none⟩) hg01 (.int .i64 (a:Int));have hA5:=hA4.far (p:=⟨g+2,0,none⟩) hg12 (.int .i64 (er:Int));have hE5:Blk _ (g+2) 47 #[.int .i64 (er:Int)]:=hE4.set 0 (.int .i64 (er:Int));have hN5:=hN4.far (p:=⟨g+2,0,none⟩) hg02 (.int .i64 (er:Int));have hu5:=((put6_upd (X:=fun b=>g≤b) (Upd.of_below hb2 _) (fun _=>Nat.le_refl g) (.int .i64 0) (.string ⟨#[]⟩) (.int .u32 0) (.int .i64 0) (.slice none 0 0) (.slice none 0 0)).setCell (p:=⟨g+1,0,none⟩) (fun _=>by show g≤g+1;omega) (.int .i64 (a:Int))).setCell (p:=⟨g+2,0,none⟩) (fun _=>by show g≤g+2;omega) (.int .i64 (er:Int));have HEND:=Hi (show RdP ProgR s w (.returned (.tuple #[.agg #[.int .i64 0,.string ⟨#[]⟩,.int .u32 0,.int .i64 0,.slice none 0 0,.slice none 0 0],.int .i64 (a:Int),.int .i64 (er:Int)])) _ from .inr ⟨a,er,rfl,HBAD.out,hu5.below (Nat.le_refl _) fun k hk=>by omega⟩);refine HT.one (i:=3) (by kernel_rfl) rfl (fun K hK=>?_);go_simp;refine hK.out _ _ (KA2.of hA3 hE3) trivial ?_;clear hK K;(try simp only [HT.pS]);refine HT.one (i:=4) (by kernel_rfl) rfl (fun K hK=>?_);go_simp;refine hK.out _ _ (KA2.of hA4 hE4) trivial ?_;clear hK K;(try simp only [HT.pS]);refine HT.one (i:=5) (by kernel_rfl) rfl (fun K hK=>?_);go_simp;refine hK.out _ _ (KA2.of hA5 hE5) trivial ?_;clear hK K;(try simp only [HT.pS]);refine HT.done (by kernel_rfl) ?_;dsimp only [Exit.then];(try simp only [HT.pS]);have HN5:=Hi hN5;have HA5:=Hi hA5;have HE5:=Hi hE5;clear hN2 hA2 hE2 hN3 hA3 hE3 hN4 hA4 hE4 hN5 hA5 hE5 hu5 hb2 hZ0;go_wp2_with fail
 exact bodyPost_ret (res3 HN5.out rfl HA5.out HE5.out _ rfl rfl rfl) rfl HEND.out
end
section
attribute [local go_sem] fTk0 fTk1 fTk2
theorem one_ne{w:World}{g:Nat}{t:TypeId}{x:Value}(h:Blk w g t #[x]){b o:Nat}{v:Value}(hc:w.cell? ⟨b,o+1,none⟩=some v):b≠g:=by
 rintro rfl;rw [h.cell (o+1)] at hc;simp at hc
theorem PS.node{w w':World}{bp d g:Nat}{t:Tk}{r:List Tk}{ty:TypeId}{k a:Int}{s:ByteArray}{n:Int}{A B:Option Addr}{la cA lb cB:Nat}(h:PS w bp (t :: r) d)(hb:Blk w g ty #[.int .i64 k,.string s,.int .u32 n,.int .i64 a,.slice A la cA,.slice B lb cB])(hu:Upd (fun b=>b=g) w w')(hg:bp≠g):PS w' bp (t :: r) d:=by
 obtain ⟨b,o,c,hn,h1,h2,h3,h4⟩:=h;have hne:b≠g:=by
  rintro rfl;have e0:=h2 0 _ (show ((t :: r).flatMap tkC)[0]?=some (.int .i64 (t.k:Int)) from rfl);have e1:=h2 1 _ (show ((t :: r).flatMap tkC)[1]?=some (.string ⟨t.s.toArray⟩) from rfl);have e2:=h2 2 _ (show ((t :: r).flatMap tkC)[2]?=some (.int .i64 (t.at_:Int)) from rfl);obtain ⟨a0,q0,e0⟩:=e0;obtain ⟨a1,q1,e1⟩:=e1;obtain ⟨a2,q2,e2⟩:=e2;cases q0;cases q1;cases q2;rw [Args.add_plain,hb.cell] at e0 e1 e2
  match o with
  | 0=>simp at e2
  | 1=>simp at e0
  | 2=>simp at e0
  | 3=>simp at e1
  | 4=>simp at e0
  | 5=>simp at e0
  | o+6=>simp at e0
 exact ⟨b,o,c,hn,h1.upd hu hg,hu.lies h2 fun b' o' e _ hx=>by cases e;exact hne hx,h3,h4⟩
theorem read_ok_program(s:ByteArray)(w:World)(h:(wordsL s.data.toList).er = 0) :
  Calls Tryz.prog 54 #[.string s,.func (.func 55) #[] #[]] w (RdP ProgR s w):=by
 obtain ⟨w0,hw0,hb0,hs0,hN,hA,hE⟩:=boxes w;have hwd:=pwords s w0;have hgt:=words_gt h;unfold PWordsP at hwd;rw [h] at hwd;obtain ⟨L,hL⟩:∃ L,(wordsL s.data.toList).l=L:=⟨_,rfl⟩;obtain ⟨at0,ha⟩:∃ a,(wordsL s.data.toList).at_=a:=⟨_,rfl⟩;rw [hL,ha] at hwd;rw [hL] at hgt;have HWD:=Hi hwd;have HER:=Hi h;have HLL:=Hi hL;have HGT:=Hi hgt;have HB0:=Hi hb0;have HN:=Hi hN;have HA:=Hi hA;have HE:=Hi hE;have HW:=Hi hw0;obtain ⟨g,hg⟩:∃ g,w.heap.size=g:=⟨_,rfl⟩;rw [hg] at HN HA HE;have hmf:∀ (fn:Fn) (first cap:Array Value) (w:World),(Instr.makeFunc fn first cap).run Tryz.prog w = .ok (.func fn first cap) w:=fun _ _ _ _=>rfl
 clear hb0 hN hA hE hw0 h hwd ha hL hgt
 go_enter_defers Tryz.func54,Tryz.ntmps54
 go_wp2_with fail
 simp only [Nat.add_assoc,Nat.reduceAdd];rw [HW.out];refine HWD.out.mono ?_;rintro e w1 ⟨A,c,rfl,hL,hb1,hc1,hc2⟩;have hN1:=HN.out.below hb1 HN.out.lt;have hA1:=HA.out.below hb1 HA.out.lt;have hE1:=HE.out.below hb1 HE.out.lt;have hEl:=hE1.lt;obtain ⟨⟨e0,e1,e2,e3,e4,e5⟩,z0,z1,z2,z3,z4,z5⟩:=Blk.c6 hN1;have c1:w1.cell? ⟨g+1,0,none⟩=some (.int .i64 0):=hA1.cell 0;have c2:w1.cell? ⟨g+2,0,none⟩=some (.int .i64 0):=hE1.cell 0;have f1:=hA1.frozen 0;have f2:=hE1.frozen 0;have hb01:Below w.heap.size w w1:=HB0.out.trans (hb1.mono HB0.out.size);have hg01:g≠g+1:=by omega
 have hg02:g≠g+2:=by omega
 have hg12:g+1≠g+2:=by omega
 obtain ⟨t0,r0,hL0⟩:=HGT.out.cons;obtain ⟨b,o,rfl,hbl,hcc⟩:=hL.at_ (j:=0) (u:=.int .i64 (t0.k:Int)) (by rw [hL0];rfl);have HLI:=Hi hL;have HN1:=Hi hN1;have HA1:=Hi hA1;have HE1:=Hi hE1;have HB1:=Hi hb01;have hcc1:=hcc 1 (.string ⟨t0.s.toArray⟩) (by rw [hL0];rfl);clear hN1 hA1 hE1 hL hb01 hL0 hcc hb1;go_wp2_with fail
 obtain ⟨w2,hw2⟩:∃ w2,((w1.setCell ⟨g+1,0,none⟩ (.int .i64 (at0:Int))).setCell ⟨g+2,0,none⟩ (.int .i64 0)).alloc (.cells #[.slice (some ⟨b,o,none⟩) L.length c,.int .i64 0] 132)=w2:=⟨_,rfl⟩;have hs12:((w1.setCell ⟨g+1,0,none⟩ (.int .i64 (at0:Int))).setCell ⟨g+2,0,none⟩ (.int .i64 0)).heap.size=w1.heap.size:=by simp
 have hu12:Upd (fun k=>k=g+1∨k=g+2) w1 w2:=by rw [←hw2];exact (((Upd.refl (fun k=>k=g+1∨k=g+2) w1).setCell (p:=⟨g+1,0,none⟩) (fun _=>.inl rfl) _).setCell (p:=⟨g+2,0,none⟩) (fun _=>.inr rfl) _).alloc _
 have hN2:Blk w2 g 62 #[.int .i64 0,.string ⟨#[]⟩,.int .u32 0,.int .i64 0,.slice none 0 0,.slice none 0 0]:=HN1.out.upd hu12 (by omega);have hA2:Blk w2 (g+1) 3 #[.int .i64 (at0:Int)]:=by rw [←hw2];exact ((HA1.out.set 0 _).far (p:=⟨g+2,0,none⟩) hg12 _).alloc _
 have hE2:Blk w2 (g+2) 47 #[.int .i64 0]:=by rw [←hw2];exact ((HE1.out.far (p:=⟨g+1,0,none⟩) (Ne.symm hg12) _).set 0 _).alloc _
 have hp2:PS w2 w1.heap.size L 0:=by
  refine ⟨b,o,c,hbl,?_,hu12.lies HLI.out fun b' o' e _ hx=>?_,hc1,hc2⟩
  ·rw [←hw2,←hs12];exact Blk.new _ _ _
  ·cases e;rcases hx with hx | hx
   ·exact one_ne HA1.out hcc1 hx
   ·exact one_ne HE1.out hcc1 hx
 have hu2:Upd (fun k=>g≤k) w w2:=(Upd.of_below HB1.out _).trans (hu12.mono fun k hk=>by omega);have HP2:=Hi hp2;have HN2:=Hi hN2;have HA2:=Hi hA2;have HE2:=Hi hE2;have HU2:=Hi hu2;rw [hw2];clear hw2 hu12 hp2 hN2 hA2 hE2 hu2 e0 e1 e2 e3 e4 e5 z0 z1 z2 z3 z4 z5 c1 c2 f1 f2 hs12;refine (cl_program w2 w1.heap.size L HP2.out HGT.out).mono ?_;rintro e w3 (⟨k,a,sx,n,A,la,cA,B,lb,cB,x,r,rfl,hT,hR,hP,hG,hr,hU⟩ | ⟨a,er,rfl,hR,hU⟩);rotate_left
 ·refine leaves_cons (f:=68) (args:=#[.pointer (some ⟨g,0,none⟩),.pointer (some ⟨g+1,0,none⟩),.pointer (some ⟨g+2,0,none⟩)]) (by simp) (by simp [go_sem]) ?_;refine (catch_wrong g a er w3 (HN2.out.upd hU (by omega)) (HA2.out.upd hU (by omega)) (HE2.out.upd hU (by omega))).mono ?_;rintro e u' w4 ⟨rfl,rfl,hN4,hA4,hE4,hU4⟩;have hu4:Upd (fun k=>g≤k) w w4:=(HU2.out.trans (hU.mono fun k hk=>by omega)).trans hU4;exact ⟨_,res3 hN4 rfl hA4 hE4 _ rfl rfl rfl,.inr ⟨a,er,rfl,.inr ⟨HER.out,.inl (by rw [HLL.out];exact hR)⟩,hu4.below (Nat.le_refl _) fun k hk=>by omega⟩⟩
 obtain ⟨t,r',rfl⟩:=hG.cons;have h2g:g+2 < w2.heap.size:=HE2.out.lt;have hN3:=HN2.out.upd hU (show ¬ g=w1.heap.size by omega);have hA3:=HA2.out.upd hU (show ¬ g+1=w1.heap.size by omega);have hE3:=HE2.out.upd hU (show ¬ g+2=w1.heap.size by omega);obtain ⟨⟨e0,e1,e2,e3,e4,e5⟩,z0,z1,z2,z3,z4,z5⟩:=Blk.c6 hN3;obtain ⟨w4,hw4⟩:∃ w4,put6 w3 g (.int .i64 (k:Int)) (.string ⟨sx.toArray⟩) (.int .u32 (n:Int)) (.int .i64 (a:Int)) (.slice A la cA) (.slice B lb cB)=w4:=⟨_,rfl⟩;have hu4:Upd (fun b=>b=g) w3 w4:=by rw [←hw4];exact put6_upd (X:=fun b=>b=g) (Upd.refl _ _) (fun _=>rfl) _ _ _ _ _ _
 have hN4:Blk w4 g 62 #[.int .i64 (k:Int),.string ⟨sx.toArray⟩,.int .u32 (n:Int),.int .i64 (a:Int),.slice A la cA,.slice B lb cB]:=by rw [←hw4];exact Blk.put6 hN3 _ _ _ _ _ _
 have hp4:PS w4 w1.heap.size (t :: r') 0:=PS.node hP hN3 hu4 (by omega);have HT4:=Hi (TIn.far hT hu4 fun b hb=>by omega);have HU4:=Hi (show Upd (fun k=>g≤k) w w4 from (HU2.out.trans (hU.mono fun k hk=>by omega)).trans (hu4.mono fun k hk=>by omega));have HN4:=Hi hN4;have HA4:=Hi (hA3.upd hu4 (by omega));have HE4:=Hi (hE3.upd hu4 (by omega));have HR3:=Hi hR;have HP4:=Hi hp4;have HNX:=Hi (next w4 w1.heap.size 0 t r' hp4);simp only [put6] at hw4;have HW4:=Hi hw4;clear hw4 hN3 hA3 hE3 hu4 hN4 hp4 hT hR hP hG hU;go_wp2_with fail
 rw [HW4.out];refine HNX.out.mono ?_;rintro e w5 ⟨rfl,hb5⟩;clear e0 e1 e2 e3 e4 e5 z0 z1 z2 z3 z4 z5;have hN5:=HN4.out.below hb5 HN4.out.lt;have hA5:=HA4.out.below hb5 HA4.out.lt;have hE5:=HE4.out.below hb5 HE4.out.lt;have HT5:=Hi (TIn.far HT4.out (Upd.of_below hb5 fun _=>False) (fun _ h=>h.elim));have HU5:=Hi (HU4.out.trans (Upd.of_below hb5 _));by_cases hk:t.k = 0
 ·have hq:((t.k:Int) != 0)=false:=by simp;omega
  obtain ⟨⟨e0,e1,e2,e3,e4,e5⟩,z0,z1,z2,z3,z4,z5⟩:=Blk.c6 hN5;have c1:w5.cell? ⟨g+1,0,none⟩=some (.int .i64 (at0:Int)):=hA5.cell 0;have c2:w5.cell? ⟨g+2,0,none⟩=some (.int .i64 0):=hE5.cell 0;have f1:=hA5.frozen 0;have f2:=hE5.frozen 0;have hN6:=((Blk.put6 hN5 (.int .i64 (k:Int)) (.string ⟨sx.toArray⟩) (.int .u32 (n:Int)) (.int .i64 (a:Int)) (.slice A la cA) (.slice B lb cB)).far (p:=⟨g+1,0,none⟩) hg01 (.int .i64 0)).far (p:=⟨g+2,0,none⟩) hg02 (.int .i64 0);have hA6:Blk _ (g+1) 3 #[.int .i64 0]:=((put6_far hA5 (Ne.symm hg01) (.int .i64 (k:Int)) (.string ⟨sx.toArray⟩) (.int .u32 (n:Int)) (.int .i64 (a:Int)) (.slice A la cA) (.slice B lb cB)).set 0 (.int .i64 0)).far (p:=⟨g+2,0,none⟩) hg12 (.int .i64 0);have hE6:Blk _ (g+2) 47 #[.int .i64 0]:=((put6_far hE5 (Ne.symm hg02) (.int .i64 (k:Int)) (.string ⟨sx.toArray⟩) (.int .u32 (n:Int)) (.int .i64 (a:Int)) (.slice A la cA) (.slice B lb cB)).far (p:=⟨g+1,0,none⟩) (Ne.symm hg12) (.int .i64 0)).set 0 (.int .i64 0);have hu6:Upd (fun k=>g≤k∧k≤g+2) w5 _:=((put6_upd (X:=fun k=>g≤k∧k≤g+2) (Upd.refl _ w5) (fun _=>⟨Nat.le_refl g,by omega⟩) (.int .i64 (k:Int)) (.string ⟨sx.toArray⟩) (.int .u32 (n:Int)) (.int .i64 (a:Int)) (.slice A la cA) (.slice B lb cB)).setCell (p:=⟨g+1,0,none⟩) (fun _=>⟨by show g≤g+1;omega,by show g+1≤g+2;omega⟩) (.int .i64 0)).setCell (p:=⟨g+2,0,none⟩) (fun _=>⟨by show g≤g+2;omega,Nat.le_refl _⟩) (.int .i64 0);have HEND:=Hi (show RdP ProgR s w (.returned (.tuple #[.agg #[.int .i64 (k:Int),.string ⟨sx.toArray⟩,.int .u32 (n:Int),.int .i64 (a:Int),.slice A la cA,.slice B lb cB],.int .i64 0,.int .i64 0])) _ from
   .inl ⟨k,a,sx,n,A,la,cA,B,lb,cB,x,t,r',rfl,HER.out,by rw [HLL.out];exact HR3.out,hk,(TIn.far HT5.out hu6 fun b hb=>by omega).up (by omega),(HU5.out.trans (hu6.mono fun k hk=>hk.1)).below (Nat.le_refl _) fun k hk=>by omega⟩)
  have HN6:=Hi hN6;have HA6:=Hi hA6;have HE6:=Hi hE6;clear hN5 hA5 hE5 hb5 hN6 hA6 hE6 hu6;go_wp2_with fail
  refine leaves_cons (f:=68) (args:=#[.pointer (some ⟨g,0,none⟩),.pointer (some ⟨g+1,0,none⟩),.pointer (some ⟨g+2,0,none⟩)]) (by simp) (by simp [go_sem]) ?_;refine (catch_idle ⟨g,0,none⟩ ⟨g+1,0,none⟩ ⟨g+2,0,none⟩ _).mono ?_;rintro e u' w7 ⟨rfl,rfl,rfl⟩;exact ⟨_,res3 HN6.out rfl HA6.out HE6.out _ rfl rfl rfl,HEND.out⟩
 ·have hq:((t.k:Int) != 0)=true:=by simp;omega
  have HHR:=Hi (here w5 w1.heap.size 0 t r' 100 (HP4.out.below hb5));have HN5:=Hi hN5;have HA5:=Hi hA5;have HE5:=Hi hE5;clear hN5 hA5 hE5 hb5;go_wp2_with fail
  refine HHR.out.mono ?_;rintro e w6 ⟨rfl,hb6⟩;have HB6:=Hi hb6;clear hb6;go_wp2_with fail
  refine leaves_cons (f:=68) (args:=#[.pointer (some ⟨g,0,none⟩),.pointer (some ⟨g+1,0,none⟩),.pointer (some ⟨g+2,0,none⟩)]) (by simp) (by simp [go_sem]) ?_;refine (catch_wrong g t.at_ 100 w6 (HN5.out.below HB6.out HN5.out.lt) (HA5.out.below HB6.out HA5.out.lt) (HE5.out.below HB6.out HE5.out.lt)).mono ?_;rintro e u' w7 ⟨rfl,rfl,hN7,hA7,hE7,hU7⟩;have hu7:Upd (fun k=>g≤k) w w7:=(HU5.out.trans (Upd.of_below HB6.out _)).trans hU7;exact ⟨_,res3 hN7 rfl hA7 hE7 _ rfl rfl rfl,.inr ⟨t.at_,100,rfl,.inr ⟨HER.out,.inr ⟨_,t,r',by rw [HLL.out];exact HR3.out,hk,rfl,rfl⟩⟩,hu7.below (Nat.le_refl _) fun k hk=>by omega⟩⟩
end
section
attribute [local go_sem] fTk0 fTk1 fTk2
theorem res_ctt{fn:Func}{p u v:Tmp}(h:fn.results = #[.cell p 62,.tmp u,.tmp v])(tmps:Array Value)(W:World){g:Nat}{t:TypeId}{cs:Array Value}(hp:tmps.getD p undef = .pointer (some ⟨g,0,none⟩))(hg:Blk W g t cs)(hs:some 6=some cs.size){x y:Value}(hx:tmps.getD u undef=x)(hy:tmps.getD v undef=y) :
  (results fn tmps).run Tryz.prog W = .ok (.tuple #[.agg cs,x,y]) W:=by
 subst hx;subst hy;have hp':tmps[p]?.getD undef = .pointer (some ⟨g,0,none⟩):=by simpa using hp
 simp [results,h,hp',asAddr,run_loadVar_row W g t 62 cs (0,0) _ hg Tryz.underlying62 rfl (szNd.trans hs)]
theorem p_program(s:ByteArray)(w:World):Calls Tryz.prog 46 #[.string s] w (RdP ProgR s w):=by
 have hrd:∀ w,Calls Tryz.prog 54 #[.string s,.func (.func 55) #[] #[]] w (RdP ProgR s w):=fun w=>by
  by_cases h:(wordsL s.data.toList).er = 0
  ·exact read_ok_program s w h
  ·exact read_bad_program s w h
 obtain ⟨w0,hw0⟩:∃ w0,w.alloc (.cells #[.int .i64 0,.string ⟨#[]⟩,.int .u32 0,.int .i64 0,.slice none 0 0,.slice none 0 0] 62)=w0:=⟨_,rfl⟩;have hb0:Below w.heap.size w w0:=by rw [←hw0];exact (Below.refl _ _).alloc (Nat.le_refl _) _
 have hB:Blk w0 w.heap.size 62 #[.int .i64 0,.string ⟨#[]⟩,.int .u32 0,.int .i64 0,.slice none 0 0,.slice none 0 0]:=by rw [←hw0];exact Blk.new _ _ _
 have HR:=Hi (hrd w0);have HB0:=Hi hb0;have HB:=Hi hB;have HW:=Hi hw0;clear hb0 hw0 hB hrd;go_enter Tryz.func46,Tryz.ntmps46;go_wp2_with fail
 rw [HW.out];refine HR.out.mono ?_;rintro e w1 (⟨k,a,sx,n,A,la,cA,B,lb,cB,x,t,r,rfl,h1,h2,h3,hT,hb⟩ | ⟨a,er,rfl,hbad,hb⟩)
 ·have hX:=HB.out.below hb HB.out.lt;have hlt:=hX.lt;have hlb:=HB.out.lt;obtain ⟨⟨e0,e1,e2,e3,e4,e5⟩,z0,z1,z2,z3,z4,z5⟩:=Blk.c6 hX;have hN:=Blk.put6 hX (.int .i64 (k:Int)) (.string ⟨sx.toArray⟩) (.int .u32 (n:Int)) (.int .i64 (a:Int)) (.slice A la cA) (.slice B lb cB);have hu:Upd (fun b=>b=w.heap.size) w1 _:=put6_upd (X:=fun b=>b=w.heap.size) (Upd.refl _ w1) (fun _=>rfl) (.int .i64 (k:Int)) (.string ⟨sx.toArray⟩) (.int .u32 (n:Int)) (.int .i64 (a:Int)) (.slice A la cA) (.slice B lb cB);have HEND:=Hi (show RdP ProgR s w (.returned (.tuple #[.agg #[.int .i64 (k:Int),.string ⟨sx.toArray⟩,.int .u32 (n:Int),.int .i64 (a:Int),.slice A la cA,.slice B lb cB],.int .i64 0,.int .i64 0])) _ from
   .inl ⟨k,a,sx,n,A,la,cA,B,lb,cB,x,t,r,rfl,h1,h2,h3,(TIn.far hT hu fun b hb=>by omega).up (by omega),((Upd.of_below (HB0.out.trans (hb.mono HB0.out.size)) (fun b=>b=w.heap.size)).trans hu).below (Nat.le_refl _) fun k hk=>by omega⟩)
  have HN:=Hi hN;clear hX hN hu hT hb h2;go_wp2_with fail
  exact bodyPost_ret (v:=.tuple #[.agg #[.int .i64 (k:Int),.string ⟨sx.toArray⟩,.int .u32 (n:Int),.int .i64 (a:Int),.slice A la cA,.slice B lb cB],.int .i64 0,.int .i64 0]) (res_ctt rfl _ _ rfl HN.out rfl rfl rfl) rfl HEND.out
 ·have hX:=HB.out.below hb HB.out.lt;obtain ⟨⟨e0,e1,e2,e3,e4,e5⟩,z0,z1,z2,z3,z4,z5⟩:=Blk.c6 hX;have hN:=Blk.put6 hX (.int .i64 0) (.string ⟨#[]⟩) (.int .u32 0) (.int .i64 0) (.slice none 0 0) (.slice none 0 0);have hu:Upd (fun b=>b=w.heap.size) w1 _:=put6_upd (X:=fun b=>b=w.heap.size) (Upd.refl _ w1) (fun _=>rfl) (.int .i64 0) (.string ⟨#[]⟩) (.int .u32 0) (.int .i64 0) (.slice none 0 0) (.slice none 0 0);have HEND:=Hi (show RdP ProgR s w (.returned (.tuple #[.agg #[.int .i64 0,.string ⟨#[]⟩,.int .u32 0,.int .i64 0,.slice none 0 0,.slice none 0 0],.int .i64 (a:Int),.int .i64 (er:Int)])) _ from .inr ⟨a,er,rfl,hbad,((Upd.of_below (HB0.out.trans (hb.mono HB0.out.size)) (fun b=>b=w.heap.size)).trans hu).below (Nat.le_refl _) fun k hk=>by omega⟩);have HN:=Hi hN;clear hX hN hu hb hbad;go_wp2_with fail
  exact bodyPost_ret (v:=.tuple #[.agg #[.int .i64 0,.string ⟨#[]⟩,.int .u32 0,.int .i64 0,.slice none 0 0,.slice none 0 0],.int .i64 (a:Int),.int .i64 (er:Int)]) (res_ctt rfl _ _ rfl HN.out rfl rfl rfl) rfl HEND.out
end
end Go.Proofs.YtdhoemlomojfaaaGreatDoor.Pa
