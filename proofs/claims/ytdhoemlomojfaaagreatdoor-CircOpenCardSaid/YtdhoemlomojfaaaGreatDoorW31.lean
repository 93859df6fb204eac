/- DERIVED. PaUn, PaPr. By an AI agent. -/
import Derived.Test.YtdhoemlomojfaaaGreatDoorW01
import Derived.Test.YtdhoemlomojfaaaGreatDoorW03
import Derived.Test.YtdhoemlomojfaaaGreatDoorW30
import Derived.Deep.DeepCutAuto
import Derived.Deep.CutBlock
set_option maxRecDepth 100000
set_option maxHeartbeats 8000000
set_option linter.unusedVariables false
set_option linter.unusedSimpArgs false
namespace Go.Proofs.YtdhoemlomojfaaaGreatDoor.Pa
open Go Go.ChangeShapes Go.WideShapes Go.ChangeAt Go.RowKit Lx Args
section
attribute [local go_sem] fTk0 fTk1 fTk2
def UnC(n:Nat):Prop:=∀ (w:World) (bp d:Nat) (l:List Tk),l.length≤n→d≤60→PS w bp l d→Gt l →
 Calls Tryz.prog 159 #[.pointer (some ⟨bp,0,none⟩)] w (OutP w bp d l (Rd numV (.lev 5) d l))
theorem within_u{n:Nat}(H:UnC n)(w:World)(bp d:Nat)(l:List Tk)(hn:l.length≤n)(hd:d≤60)(hp:PS w bp l d)(hg:Gt l) :
  Calls Tryz.prog 136 #[.pointer (some ⟨bp,0,none⟩),.func (.func 159) #[.pointer (some ⟨bp,0,none⟩)] #[]] w (OutP w bp d l (Rd numV (.lev 5) (d+1) l)):=by
 rcases Nat.lt_or_ge d 60 with h | h
 ·exact within_unary _ w bp d l h hp fun w0 hp0=>H w0 bp (d+1) l hn (by omega) hp0 hg
 ·obtain rfl:d = 60:=by omega
  obtain ⟨t,r,rfl⟩:=hg.cons;exact (within_deep _ w bp t r hp).mono fun e w' h=>.inr ⟨_,_,h.1,r_deep5 (by omega),h.2⟩
def K3(g:Nat)(t:Tk)(w:World):Prop:=w.cell? ⟨g,0,none⟩=some (.int .i64 (t.k:Int))∧w.cell? ⟨g,1,none⟩=some (.string ⟨t.s.toArray⟩)∧w.cell? ⟨g,2,none⟩=some (.int .i64 (t.at_:Int))
theorem K3.of{g:Nat}{t:Tk}{w:World}{ty:TypeId}(h:Blk w g ty #[.int .i64 (t.k:Int),.string ⟨t.s.toArray⟩,.int .i64 (t.at_:Int)]):K3 g t w:=⟨h.cell 0,h.cell 1,h.cell 2⟩
theorem nd_one{lo:Nat}{w1:World}{x:Tr}{cs:List Value}(hT:TIn (fun b=>lo≤b) w1 x cs)(hlo:lo≤w1.heap.size)(e:TypeId)(k a:Nat)(s:Bs) :
  TIn (fun b=>lo≤b) (w1.alloc (.cells cs.toArray e)) (.mk k a s 0 [] [x]) (ndC k a s 0 (some ⟨w1.heap.size,0,none⟩) 1 1 none 0 0):=
 (ArrT.first (e:=e) hT hlo).node (by simp) k a 0 s
theorem unary_go{n:Nat}(H:UnC n)(w:World)(bp d:Nat)(t:Tk)(r:List Tk)(hn:r.length≤n)(hd:d≤60)(hp:PS w bp (t :: r) d)(hg:Gt (t :: r))(ht:(isS [126] t || isS [45] t)=true) :
  Calls Tryz.prog 159 #[.pointer (some ⟨bp,0,none⟩)] w (OutP w bp d (t :: r) (Rd numV (.lev 5) d (t :: r))):=by
 have hlt:=hp.lt;have hk:t.k≠0:=fun h=>by rw [isS_low (by omega),isS_low (by omega)] at ht;cases ht
 have hgr:=hg.tail hk;obtain ⟨t2,r2,hr2⟩:=hgr.cons;have hne:r≠[]:=by rw [hr2];simp
 obtain ⟨w0,hw0⟩:∃ w0,w.alloc (.cells #[.int .i64 0,.string ⟨#[]⟩,.int .u32 0,.int .i64 0,.slice none 0 0,.slice none 0 0] 62)=w0:=⟨_,rfl⟩;have hb0:Below w.heap.size w w0:=by rw [←hw0];exact (Below.refl _ _).alloc (Nat.le_refl _) _
 have hB:Blk w0 w.heap.size 62 #[.int .i64 0,.string ⟨#[]⟩,.int .u32 0,.int .i64 0,.slice none 0 0,.slice none 0 0]:=by rw [←hw0];exact Blk.new _ _ _
 have hp0:=hp.below hb0;have HI1:=Hi (is_ w0 bp d t r [126] hp0);have HI2:=Hi fun (w':World) (hb:Below w0.heap.size w0 w')=>is_ w' bp d t r [45] (hp0.below hb)
 have HTK:=Hi fun (w':World) (hb:Below w0.heap.size w0 w')=>take w' bp d t r (hp0.below hb) hne
 have HB0:=Hi hb0;have HB:=Hi hB;have HW:=Hi hw0;have HGR:=Hi hgr;have hcase:((t.s==[126])=true)∨((t.s==[126])=false∧(t.s==[45])=true):=by
  rw [isS_eq hg.hd (by decide),isS_eq hg.hd (by decide)] at ht;cases h1:(t.s==[126])
  ·rw [h1] at ht;exact .inr ⟨rfl,by simpa using ht⟩
  ·exact .inl rfl
 have HTT:=Hi ht;clear hb0 hp hp0 hw0 hB hgr hr2 hg ht hk hne;rcases hcase with hc | ⟨hc,hc2⟩
 ·rw [hc] at HI1;clear hc HI2;go_enter Tryz.func159,Tryz.ntmps159;go_wp2_with fail
  rw [HW.out];refine HI1.out.mono ?_;rintro e w1 ⟨rfl,hb1⟩;have HT1:=Hi (HTK.out w1 hb1);have HU1:=Hi ((below_UB (bp:=bp) HB0.out).trans (below_UB hb1));have HBX:=Hi (HB.out.below hb1 HB.out.lt);clear hb1 HI1 HTK;go_wp2_with fail
  refine HT1.out.mono ?_;rintro e w2 ⟨rfl,hp2,hu2⟩;have HP2:=Hi hp2;have HU2:=Hi (HU1.out.trans hu2);have HBX2:=Hi (HBX.out.upd hu2 (by omega));clear hp2 hu2 HT1 HBX HU1;go_upto_region 4 with fail
  obtain ⟨w3,hw3⟩:∃ w3,w2.alloc (.cells #[.int .i64 (t.k:Int),.string ⟨t.s.toArray⟩,.int .i64 (t.at_:Int)] 134)=w3:=⟨_,rfl⟩;have hb3:Below w2.heap.size w2 w3:=by rw [←hw3];exact (Below.refl _ _).alloc (Nat.le_refl _) _
  have hbt:Blk w3 w2.heap.size 134 #[.int .i64 (t.k:Int),.string ⟨t.s.toArray⟩,.int .i64 (t.at_:Int)]:=by rw [←hw3];exact Blk.new _ _ _
  have hZ0:K3 w2.heap.size t w3.drew:=K3.of hbt.drew;rw [hw3];clear hw3;refine HT.wp_region (Z:=fun w'=>K3 w2.heap.size t w') (S:=fun _=>True) (st:=[]) (by kernel_rfl) ?_;refine HT.takeP (i:=0) (v:=?_) rfl (by kernel_rfl) (by kernel_rfl) (by kernel_rfl) (by kernel_rfl) (fun _ _ _ h=>h) (Or.inl ⟨by rfl,?_⟩) hZ0 (fun _=>trivial) ?_;rotate_left
  ·(intro w hSw;obtain ⟨y0,y1,y2⟩:=hSw;go_simp;try with_reducible rfl)
  (try simp only [HT.pS]);refine HT.takeP (i:=1) (v:=?_) rfl (by kernel_rfl) (by kernel_rfl) (by kernel_rfl) (by kernel_rfl) (fun _ _ _ h=>h) (Or.inl ⟨by rfl,?_⟩) hZ0 (fun _=>trivial) ?_;rotate_left
  ·(intro w hSw;obtain ⟨y0,y1,y2⟩:=hSw;go_simp;try with_reducible rfl)
  (try simp only [HT.pS]);refine HT.takeP (i:=2) (v:=?_) rfl (by kernel_rfl) (by kernel_rfl) (by kernel_rfl) (by kernel_rfl) (fun _ _ _ h=>h) (Or.inl ⟨by rfl,?_⟩) hZ0 (fun _=>trivial) ?_;rotate_left
  ·(intro w hSw;obtain ⟨y0,y1,y2⟩:=hSw;go_simp;try with_reducible rfl)
  (try simp only [HT.pS]);refine HT.takeP (i:=3) (v:=?_) rfl (by kernel_rfl) (by kernel_rfl) (by kernel_rfl) (by kernel_rfl) (fun _ _ _ h=>h) (Or.inl ⟨by rfl,?_⟩) hZ0 (fun _=>trivial) ?_;rotate_left
  ·(intro w hSw;obtain ⟨y0,y1,y2⟩:=hSw;go_simp;try with_reducible rfl)
  (try simp only [HT.pS]);refine HT.takeP (i:=4) (v:=?_) rfl (by kernel_rfl) (by kernel_rfl) (by kernel_rfl) (by kernel_rfl) (fun _ _ _ h=>h) (Or.inl ⟨by rfl,?_⟩) hZ0 (fun _=>trivial) ?_;rotate_left
  ·(intro w hSw;obtain ⟨y0,y1,y2⟩:=hSw;go_simp;try with_reducible rfl)
  (try simp only [HT.pS]);refine HT.takeP (i:=5) (v:=?_) rfl (by kernel_rfl) (by kernel_rfl) (by kernel_rfl) (by kernel_rfl) (fun _ _ _ h=>h) (Or.inl ⟨by rfl,?_⟩) hZ0 (fun _=>trivial) ?_;rotate_left
  ·(intro w hSw;obtain ⟨y0,y1,y2⟩:=hSw;go_simp;try with_reducible rfl)
  (try simp only [HT.pS]);refine HT.takeP (i:=6) (v:=?_) rfl (by kernel_rfl) (by kernel_rfl) (by kernel_rfl) (by kernel_rfl) (fun _ _ _ h=>h) (Or.inl ⟨by rfl,?_⟩) hZ0 (fun _=>trivial) ?_;rotate_left
  ·(intro w hSw;obtain ⟨y0,y1,y2⟩:=hSw;go_simp;try with_reducible rfl)
  (try simp only [HT.pS]);have hp3:PS w3.drew bp r d:=⟨(HP2.out.below hb3).ex⟩;have HWI:=Hi (within_u H w3.drew bp d r hn hd hp3 HGR.out);have HU3:=Hi ((HU2.out.trans (below_UB hb3)).drew);have HBT:=Hi hbt.drew;have HBX3:=Hi (HBX2.out.below hb3 HBX2.out.lt).drew;have h33:w.heap.size < w3.drew.heap.size:=(HBX2.out.below hb3 HBX2.out.lt).lt;have h23:w2.heap.size < w3.drew.heap.size:=hbt.lt;have h02:bp < w2.heap.size:=HP2.out.lt;clear hp3 hb3 hbt;refine HT.one (i:=7) (by kernel_rfl) rfl (fun K hK=>?_);go_simp;refine HWI.out.mono ?_;rintro e w4 (⟨k,a,s,m,A,la,cA,B,lb,cB,x,r',rfl,hT,hR,hP,hG,hr,hU⟩ | ⟨a,er,rfl,hR,hU⟩);rotate_left
  ·exact ⟨rfl,.inr ⟨a,er,rfl,r_un_bad hd HTT.out hR,HU3.out.trans hU⟩⟩
  have HS34:=Hi hU.size;have HBT4:=Hi (HBT.out.upd hU (by omega));have HBX4:=Hi (HBX3.out.upd hU (by omega));have HT4:=Hi hT;have HR4:=Hi hR;have HP4:=Hi hP;have HG4:=Hi hG;have HU4:=Hi (HU3.out.trans hU);have hr1:r'.length < (t :: r).length:=by simp;omega
  clear hT hR hP hG hU hZ0;dsimp only;refine hK.out _ _ (K3.of HBT4.out) trivial ?_;clear hK K;(try simp only [HT.pS]);refine HT.one (i:=8) (by kernel_rfl) rfl (fun K hK=>?_);go_simp;obtain ⟨w5,hw5⟩:∃ w5,w4.alloc (.cells #[.int .i64 (k:Int),.string ⟨s.toArray⟩,.int .u32 (m:Int),.int .i64 (a:Int),.slice A la cA,.slice B lb cB] 62)=w5:=⟨_,rfl⟩;have hb5:Below w4.heap.size w4 w5:=by rw [←hw5];exact (Below.refl _ _).alloc (Nat.le_refl _) _
  have hT5:TIn (fun b=>w3.drew.heap.size≤b) w5 (.mk 2 t.at_ t.s 0 [] [x]) (ndC 2 t.at_ t.s 0 (some ⟨w4.heap.size,0,none⟩) 1 1 none 0 0):=by
   rw [←hw5];exact nd_one HT4.out HS34.out _ _ _ _
  refine hK.out _ _ (K3.of (HBT4.out.alloc _)) trivial ?_;clear hK K;(try simp only [HT.pS]);rw [hw5];have HB5:=Hi hb5;have HT5:=Hi hT5;clear hw5 hb5 hT5;have HN:=Hi (show Calls Tryz.prog 72 #[.int .i64 2,.string ⟨t.s.toArray⟩,.int .i64 (t.at_:Int),.slice (some ⟨w4.heap.size,0,none⟩) 1 1] w5 _ from node w5 2 t.at_ t.s (some ⟨w4.heap.size,0,none⟩) 1 1);refine HT.one (i:=9) (by kernel_rfl) rfl (fun K hK=>?_);go_simp;refine HN.out.mono ?_;rintro e w6 ⟨rfl,hb6⟩;have HB6:=Hi hb6;have HX6:=Hi ((HBX4.out.below HB5.out HBX4.out.lt).below hb6 (Nat.lt_of_lt_of_le HBX4.out.lt HB5.out.size));have HK6:=Hi ((HBT4.out.below HB5.out HBT4.out.lt).below hb6 (Nat.lt_of_lt_of_le HBT4.out.lt HB5.out.size));clear hb6;dsimp only;refine hK.out _ _ (K3.of HK6.out) trivial ?_;clear hK K;(try simp only [HT.pS]);obtain ⟨⟨e0,e1,e2,e3,e4,e5⟩,z0,z1,z2,z3,z4,z5⟩:=Blk.c6 HX6.out;have hne26:w2.heap.size≠w.heap.size:=by have:=HBX2.out.lt;omega
  have HEND:=Hi (out_ok (R:=Rd numV (.lev 5) d (t :: r)) (l:=t :: r) hlt h33 (TIn.far HT5.out (Upd.of_below HB6.out fun _=>False) (fun _ h=>h.elim)) (r_un hd HTT.out HR4.out) ((HP4.out.below HB5.out).below HB6.out) HG4.out hr1 ((HU4.out.trans (below_UB HB5.out)).trans (below_UB HB6.out)));refine HT.one (i:=10) (by kernel_rfl) rfl (fun K hK=>?_);go_simp;refine hK.out _ _ (K3.of (put6_far HK6.out hne26 _ _ _ _ _ _)) trivial ?_;clear hK K;refine HT.done (by kernel_rfl) ?_;dsimp only [Exit.then];(try simp only [HT.pS]);go_wp2_with fail
  exact bodyPost_ret (resNd rfl rfl (Blk.put6 HX6.out _ _ _ _ _ _) rfl) rfl HEND.out
 ·rw [hc] at HI1;go_enter Tryz.func159,Tryz.ntmps159;go_wp2_with fail
  rw [HW.out];refine HI1.out.mono ?_;rintro e w9 ⟨rfl,hb9⟩;have hi2:=HI2.out w9 hb9;rw [hc2] at hi2;have HI3:=Hi hi2;have HB9:=Hi hb9;clear hb9 hi2 hc hc2 HI2 HI1;go_wp2_with fail
  refine HI3.out.mono ?_;rintro e w1 ⟨rfl,hb1⟩;have HT1:=Hi (HTK.out w1 (HB9.out.trans (hb1.mono HB9.out.size)));have HU1:=Hi (((below_UB (bp:=bp) HB0.out).trans (below_UB HB9.out)).trans (below_UB hb1));have HBX:=Hi ((HB.out.below HB9.out HB.out.lt).below hb1 (Nat.lt_of_lt_of_le HB.out.lt HB9.out.size));clear hb1 HTK HI3 HB9;go_wp2_with fail
  refine HT1.out.mono ?_;rintro e w2 ⟨rfl,hp2,hu2⟩;have HP2:=Hi hp2;have HU2:=Hi (HU1.out.trans hu2);have HBX2:=Hi (HBX.out.upd hu2 (by omega));clear hp2 hu2 HT1 HBX HU1;go_upto_region 4 with fail
  obtain ⟨w3,hw3⟩:∃ w3,w2.alloc (.cells #[.int .i64 (t.k:Int),.string ⟨t.s.toArray⟩,.int .i64 (t.at_:Int)] 134)=w3:=⟨_,rfl⟩;have hb3:Below w2.heap.size w2 w3:=by rw [←hw3];exact (Below.refl _ _).alloc (Nat.le_refl _) _
  have hbt:Blk w3 w2.heap.size 134 #[.int .i64 (t.k:Int),.string ⟨t.s.toArray⟩,.int .i64 (t.at_:Int)]:=by rw [←hw3];exact Blk.new _ _ _
  have hZ0:K3 w2.heap.size t w3.drew:=K3.of hbt.drew;rw [hw3];clear hw3;refine HT.wp_region (Z:=fun w'=>K3 w2.heap.size t w') (S:=fun _=>True) (st:=[]) (by kernel_rfl) ?_;refine HT.takeP (i:=0) (v:=?_) rfl (by kernel_rfl) (by kernel_rfl) (by kernel_rfl) (by kernel_rfl) (fun _ _ _ h=>h) (Or.inl ⟨by rfl,?_⟩) hZ0 (fun _=>trivial) ?_;rotate_left
  ·(intro w hSw;obtain ⟨y0,y1,y2⟩:=hSw;go_simp;try with_reducible rfl)
  (try simp only [HT.pS]);refine HT.takeP (i:=1) (v:=?_) rfl (by kernel_rfl) (by kernel_rfl) (by kernel_rfl) (by kernel_rfl) (fun _ _ _ h=>h) (Or.inl ⟨by rfl,?_⟩) hZ0 (fun _=>trivial) ?_;rotate_left
  ·(intro w hSw;obtain ⟨y0,y1,y2⟩:=hSw;go_simp;try with_reducible rfl)
  (try simp only [HT.pS]);refine HT.takeP (i:=2) (v:=?_) rfl (by kernel_rfl) (by kernel_rfl) (by kernel_rfl) (by kernel_rfl) (fun _ _ _ h=>h) (Or.inl ⟨by rfl,?_⟩) hZ0 (fun _=>trivial) ?_;rotate_left
  ·(intro w hSw;obtain ⟨y0,y1,y2⟩:=hSw;go_simp;try with_reducible rfl)
  (try simp only [HT.pS]);refine HT.takeP (i:=3) (v:=?_) rfl (by kernel_rfl) (by kernel_rfl) (by kernel_rfl) (by kernel_rfl) (fun _ _ _ h=>h) (Or.inl ⟨by rfl,?_⟩) hZ0 (fun _=>trivial) ?_;rotate_left
  ·(intro w hSw;obtain ⟨y0,y1,y2⟩:=hSw;go_simp;try with_reducible rfl)
  (try simp only [HT.pS]);refine HT.takeP (i:=4) (v:=?_) rfl (by kernel_rfl) (by kernel_rfl) (by kernel_rfl) (by kernel_rfl) (fun _ _ _ h=>h) (Or.inl ⟨by rfl,?_⟩) hZ0 (fun _=>trivial) ?_;rotate_left
  ·(intro w hSw;obtain ⟨y0,y1,y2⟩:=hSw;go_simp;try with_reducible rfl)
  (try simp only [HT.pS]);refine HT.takeP (i:=5) (v:=?_) rfl (by kernel_rfl) (by kernel_rfl) (by kernel_rfl) (by kernel_rfl) (fun _ _ _ h=>h) (Or.inl ⟨by rfl,?_⟩) hZ0 (fun _=>trivial) ?_;rotate_left
  ·(intro w hSw;obtain ⟨y0,y1,y2⟩:=hSw;go_simp;try with_reducible rfl)
  (try simp only [HT.pS]);refine HT.takeP (i:=6) (v:=?_) rfl (by kernel_rfl) (by kernel_rfl) (by kernel_rfl) (by kernel_rfl) (fun _ _ _ h=>h) (Or.inl ⟨by rfl,?_⟩) hZ0 (fun _=>trivial) ?_;rotate_left
  ·(intro w hSw;obtain ⟨y0,y1,y2⟩:=hSw;go_simp;try with_reducible rfl)
  (try simp only [HT.pS]);have hp3:PS w3.drew bp r d:=⟨(HP2.out.below hb3).ex⟩;have HWI:=Hi (within_u H w3.drew bp d r hn hd hp3 HGR.out);have HU3:=Hi ((HU2.out.trans (below_UB hb3)).drew);have HBT:=Hi hbt.drew;have HBX3:=Hi (HBX2.out.below hb3 HBX2.out.lt).drew;have h33:w.heap.size < w3.drew.heap.size:=(HBX2.out.below hb3 HBX2.out.lt).lt;have h23:w2.heap.size < w3.drew.heap.size:=hbt.lt;have h02:bp < w2.heap.size:=HP2.out.lt;clear hp3 hb3 hbt;refine HT.one (i:=7) (by kernel_rfl) rfl (fun K hK=>?_);go_simp;refine HWI.out.mono ?_;rintro e w4 (⟨k,a,s,m,A,la,cA,B,lb,cB,x,r',rfl,hT,hR,hP,hG,hr,hU⟩ | ⟨a,er,rfl,hR,hU⟩);rotate_left
  ·exact ⟨rfl,.inr ⟨a,er,rfl,r_un_bad hd HTT.out hR,HU3.out.trans hU⟩⟩
  have HS34:=Hi hU.size;have HBT4:=Hi (HBT.out.upd hU (by omega));have HBX4:=Hi (HBX3.out.upd hU (by omega));have HT4:=Hi hT;have HR4:=Hi hR;have HP4:=Hi hP;have HG4:=Hi hG;have HU4:=Hi (HU3.out.trans hU);have hr1:r'.length < (t :: r).length:=by simp;omega
  clear hT hR hP hG hU hZ0;dsimp only;refine hK.out _ _ (K3.of HBT4.out) trivial ?_;clear hK K;(try simp only [HT.pS]);refine HT.one (i:=8) (by kernel_rfl) rfl (fun K hK=>?_);go_simp;obtain ⟨w5,hw5⟩:∃ w5,w4.alloc (.cells #[.int .i64 (k:Int),.string ⟨s.toArray⟩,.int .u32 (m:Int),.int .i64 (a:Int),.slice A la cA,.slice B lb cB] 62)=w5:=⟨_,rfl⟩;have hb5:Below w4.heap.size w4 w5:=by rw [←hw5];exact (Below.refl _ _).alloc (Nat.le_refl _) _
  have hT5:TIn (fun b=>w3.drew.heap.size≤b) w5 (.mk 2 t.at_ t.s 0 [] [x]) (ndC 2 t.at_ t.s 0 (some ⟨w4.heap.size,0,none⟩) 1 1 none 0 0):=by
   rw [←hw5];exact nd_one HT4.out HS34.out _ _ _ _
  refine hK.out _ _ (K3.of (HBT4.out.alloc _)) trivial ?_;clear hK K;(try simp only [HT.pS]);rw [hw5];have HB5:=Hi hb5;have HT5:=Hi hT5;clear hw5 hb5 hT5;have HN:=Hi (show Calls Tryz.prog 72 #[.int .i64 2,.string ⟨t.s.toArray⟩,.int .i64 (t.at_:Int),.slice (some ⟨w4.heap.size,0,none⟩) 1 1] w5 _ from node w5 2 t.at_ t.s (some ⟨w4.heap.size,0,none⟩) 1 1);refine HT.one (i:=9) (by kernel_rfl) rfl (fun K hK=>?_);go_simp;refine HN.out.mono ?_;rintro e w6 ⟨rfl,hb6⟩;have HB6:=Hi hb6;have HX6:=Hi ((HBX4.out.below HB5.out HBX4.out.lt).below hb6 (Nat.lt_of_lt_of_le HBX4.out.lt HB5.out.size));have HK6:=Hi ((HBT4.out.below HB5.out HBT4.out.lt).below hb6 (Nat.lt_of_lt_of_le HBT4.out.lt HB5.out.size));clear hb6;dsimp only;refine hK.out _ _ (K3.of HK6.out) trivial ?_;clear hK K;(try simp only [HT.pS]);obtain ⟨⟨e0,e1,e2,e3,e4,e5⟩,z0,z1,z2,z3,z4,z5⟩:=Blk.c6 HX6.out;have hne26:w2.heap.size≠w.heap.size:=by have:=HBX2.out.lt;omega
  have HEND:=Hi (out_ok (R:=Rd numV (.lev 5) d (t :: r)) (l:=t :: r) hlt h33 (TIn.far HT5.out (Upd.of_below HB6.out fun _=>False) (fun _ h=>h.elim)) (r_un hd HTT.out HR4.out) ((HP4.out.below HB5.out).below HB6.out) HG4.out hr1 ((HU4.out.trans (below_UB HB5.out)).trans (below_UB HB6.out)));refine HT.one (i:=10) (by kernel_rfl) rfl (fun K hK=>?_);go_simp;refine hK.out _ _ (K3.of (put6_far HK6.out hne26 _ _ _ _ _ _)) trivial ?_;clear hK K;refine HT.done (by kernel_rfl) ?_;dsimp only [Exit.then];(try simp only [HT.pS]);go_wp2_with fail
  exact bodyPost_ret (resNd rfl rfl (Blk.put6 HX6.out _ _ _ _ _ _) rfl) rfl HEND.out
end
section
attribute [local go_sem] fTk0 fTk1 fTk2
theorem prim_num(w:World)(bp d:Nat)(t:Tk)(r:List Tk)(hd:d≤60)(hp:PS w bp (t :: r) d)(hg:Gt (t :: r))(hk:t.k = 2) :
  Calls Tryz.prog 173 #[.pointer (some ⟨bp,0,none⟩)] w (OutP w bp d (t :: r) (Rd numV (.lev 5) d (t :: r))):=by
 have hlt:=hp.lt;have hgr:=hg.tail (by omega);obtain ⟨t2,r2,hr2⟩:=hgr.cons;have hne:r≠[]:=by rw [hr2];simp
 obtain ⟨w0,hw0⟩:∃ w0,w.alloc (.cells #[.int .i64 0,.string ⟨#[]⟩,.int .u32 0,.int .i64 0,.slice none 0 0,.slice none 0 0] 62)=w0:=⟨_,rfl⟩;have hb0:Below w.heap.size w w0:=by rw [←hw0];exact (Below.refl _ _).alloc (Nat.le_refl _) _
 have hB:Blk w0 w.heap.size 62 #[.int .i64 0,.string ⟨#[]⟩,.int .u32 0,.int .i64 0,.slice none 0 0,.slice none 0 0]:=by rw [←hw0];exact Blk.new _ _ _
 have hn:=next w0 bp d t r (hp.below hb0);have HKQ:=Hi hk;have hq:((t.k:Int)==2)=true:=by rw [hk];rfl
 have HN:=Hi hn;have HNU:=Hi fun (w':World) (hb:Below w0.heap.size w0 w')=>number w' bp d t r ((hp.below hb0).below hb) (hg.ok t (List.mem_cons_self ..)).2 hne
 have HB0:=Hi hb0;have HB:=Hi hB;have HW:=Hi hw0;have HGR:=Hi hgr;clear hb0 hp hw0 hB hgr hr2 hg hk hn hne;go_enter Tryz.func173,Tryz.ntmps173;go_wp2_with fail
 rw [HW.out];refine HN.out.mono ?_;rintro e w1 ⟨rfl,hb1⟩;obtain ⟨w2,hw2⟩:∃ w2,w1.alloc (.cells #[.int .i64 (t.k:Int),.string ⟨t.s.toArray⟩,.int .i64 (t.at_:Int)] 134)=w2:=⟨_,rfl⟩;have hb2:Below w0.heap.size w0 w2:=by rw [←hw2];exact hb1.alloc hb1.size _
 have HW2:=Hi hw2;have HB2:=Hi hb2;have HNO:=Hi (show Calls Tryz.prog 72 #[.int .i64 0,.string ⟨#[]⟩,.int .i64 (t.at_:Int),.slice none 0 0] w2 _ from node w2 0 t.at_ [] none 0 0);clear hb1 hb2 hw2 HN;go_wp2_with fail
 rw [HW2.out];refine HNO.out.mono ?_;rintro e w3 ⟨rfl,hb3⟩;obtain ⟨w4,hw4⟩:∃ w4,w3.alloc (.cells #[.int .i64 0,.string ⟨#[]⟩,.int .u32 0,.int .i64 (t.at_:Int),.slice none 0 0,.slice none 0 0] 62)=w4:=⟨_,rfl⟩;have hb34:Below w3.heap.size w3 w4:=by rw [←hw4];exact (Below.refl _ _).alloc (Nat.le_refl _) _
 have hb4:Below w0.heap.size w0 w4:=(HB2.out.trans (hb3.mono HB2.out.size)).trans (hb34.mono (Nat.le_trans HB2.out.size hb3.size));have hbn:Blk w4 w3.heap.size 62 #[.int .i64 0,.string ⟨#[]⟩,.int .u32 0,.int .i64 (t.at_:Int),.slice none 0 0,.slice none 0 0]:=by rw [←hw4];exact Blk.new _ _ _
 have HU4:=Hi (HNU.out w4 hb4);have HW4:=Hi hw4;have HBN:=Hi hbn;have HB4:=Hi hb4;have h03:w0.heap.size≤w3.heap.size:=Nat.le_trans HB2.out.size hb3.size;clear hb3 hb34 hb4 hw4 hbn HNO HNU;go_wp2_with fail
 rw [HW4.out];refine HU4.out.mono ?_;rintro e w5 (⟨hnv,rfl,hp5,hu5⟩ | ⟨hnv,he,hu5⟩)
 ·have hX:Blk w5 w.heap.size 62 _:=(HB.out.below HB4.out HB.out.lt).upd hu5 (by omega);have hlb:=HB.out.lt;have hY:=HBN.out.upd hu5 (show ¬ w3.heap.size=bp by omega);obtain ⟨⟨e0,e1,e2,e3,e4,e5⟩,z0,z1,z2,z3,z4,z5⟩:=Blk.c6 hX;obtain ⟨⟨g0,g1,g2,g3,g4,g5⟩,y0,y1,y2,y3,y4,y5⟩:=Blk.c6 hY;have hxy:w3.heap.size≠w.heap.size:=by omega
  have HX:=Hi hX;have HY:=Hi hY;have HP5:=Hi hp5;have HU5:=Hi hu5;have HNV:=Hi hnv;clear hX hY hp5 hu5 hnv;go_wp2_with fail
  have hu6:Upd (fun b=>bp < b) w5 (w5.setCell ⟨w3.heap.size,2,none⟩ (.int .u32 ((numV t.s).1:Int))):=(Upd.refl (fun b=>bp < b) w5).setCell (fun _=>by show bp < w3.heap.size;omega) _;have hu7:UB bp w (w5.setCell ⟨w3.heap.size,2,none⟩ (.int .u32 ((numV t.s).1:Int))):=(((below_UB HB0.out).trans (below_UB HB4.out)).trans HU5.out).setCell (fun h=>absurd h (by show ¬ w3.heap.size < w.heap.size;omega)) _;refine bodyPost_ret (resNd rfl rfl (Blk.put6 (HX.out.far (Ne.symm hxy) _) _ _ _ _ _ _) rfl) rfl ?_;exact out_ok (lo:=w.heap.size+1) hlt (by omega) (tIn_leaf _ 0 t.at_ (numV t.s).1 []) (r_num hd HKQ.out HNV.out) (HP5.out.far hu6 fun _ h=>h) HGR.out (by simp) hu7
 ·have hbad:=r_num_bad (num:=numV) (r:=r) hd HKQ.out hnv;generalize (if (numV t.s).2 = 4 then 100 else 150)=er at he hbad;subst he;have HU5:=Hi hu5;have HBAD:=Hi hbad;clear hu5 hnv hbad;go_wp2_with fail
  exact ⟨rfl,.inr ⟨_,_,rfl,HBAD.out,((below_UB HB0.out).trans (below_UB HB4.out)).trans HU5.out⟩⟩
theorem tIn_place{N:Nat→Prop}{w:World}{x:Tr}{k a s n A la cA B lb cB}(h:TIn N w x (ndC k a s n A la cA B lb cB))(a':Nat):TIn N w (x.put a') (ndC k a' s n A la cA B lb cB):=by
 cases x with
 | mk k1 a1 s1 n1 ps l=>
  show TIn N w (.mk k1 a' s1 n1 ps l) _;unfold TIn at h ⊢;obtain ⟨A1,cA1,B1,cB1,h1,h2⟩:=h;refine ⟨A1,cA1,B1,cB1,?_,h2⟩;unfold ndC at h1 ⊢;simp only [List.cons.injEq] at h1 ⊢;exact ⟨h1.1,h1.2.1,h1.2.2.1,trivial,h1.2.2.2.2⟩
theorem prim_par{n:Nat}(H:ExC n)(w:World)(bp d:Nat)(t:Tk)(r:List Tk)(hn:r.length≤n)(hd:d≤60)(hp:PS w bp (t :: r) d)(hg:Gt (t :: r))(hc:(t.s==[40])=true) :
  Calls Tryz.prog 173 #[.pointer (some ⟨bp,0,none⟩)] w (OutP w bp d (t :: r) (Rd numV (.lev 5) d (t :: r))):=by
 have hlt:=hp.lt;have hon:isS [40] t=true:=by rw [isS_eq hg.hd (by decide)];exact hc
 have hk:2 < t.k:=okt_lit hg.hd (by rw [eq_of_beq hc];decide);have hgr:=hg.tail (by omega);obtain ⟨t2,r2,hr2⟩:=hgr.cons;have hne:r≠[]:=by rw [hr2];simp
 obtain ⟨w0,hw0⟩:∃ w0,w.alloc (.cells #[.int .i64 0,.string ⟨#[]⟩,.int .u32 0,.int .i64 0,.slice none 0 0,.slice none 0 0] 62)=w0:=⟨_,rfl⟩;have hb0:Below w.heap.size w w0:=by rw [←hw0];exact (Below.refl _ _).alloc (Nat.le_refl _) _
 have hB:Blk w0 w.heap.size 62 #[.int .i64 0,.string ⟨#[]⟩,.int .u32 0,.int .i64 0,.slice none 0 0,.slice none 0 0]:=by rw [←hw0];exact Blk.new _ _ _
 have hq1:((t.k:Int)==2)=false:=by simp;omega
 have hq2:((t.k:Int)==1)=false:=by simp;omega
 have HN:=Hi (next w0 bp d t r (hp.below hb0));have HTK:=Hi fun (w':World) (hb:Below w0.heap.size w0 w')=>take w' bp d t r ((hp.below hb0).below hb) hne
 have HB0:=Hi hb0;have HB:=Hi hB;have HW:=Hi hw0;have HGR:=Hi hgr;have hlb:=hB.lt;clear hb0 hp hw0 hB hgr hr2 hg hk hne;go_enter Tryz.func173,Tryz.ntmps173;go_wp2_with fail
 rw [HW.out];refine HN.out.mono ?_;rintro e w1 ⟨rfl,hb1⟩;obtain ⟨w2,hw2⟩:∃ w2,w1.alloc (.cells #[.int .i64 (t.k:Int),.string ⟨t.s.toArray⟩,.int .i64 (t.at_:Int)] 134)=w2:=⟨_,rfl⟩;have hb2:Below w0.heap.size w0 w2:=by rw [←hw2];exact hb1.alloc hb1.size _
 have hbt:Blk w2 w1.heap.size 134 #[.int .i64 (t.k:Int),.string ⟨t.s.toArray⟩,.int .i64 (t.at_:Int)]:=by rw [←hw2];exact Blk.new _ _ _
 have HT2:=Hi (HTK.out w2 hb2);have h01:w0.heap.size≤w1.heap.size:=hb1.size;have HW2:=Hi hw2;have HU2:=Hi ((below_UB (bp:=bp) HB0.out).trans (below_UB hb2));have HBT:=Hi hbt;have HX2:=Hi (HB.out.below hb2 HB.out.lt);clear hb1 hb2 hw2 HN hbt HTK;go_wp2_with fail
 rw [HW2.out];refine HT2.out.mono ?_;rintro e w3 ⟨rfl,hp3,hu3⟩;have HE3:=Hi (within_e H w3 bp d r hn hd hp3 HGR.out);have HU3:=Hi (HU2.out.trans hu3);have HBT3:=Hi (HBT.out.upd hu3 (by omega));have HX3:=Hi (HX2.out.upd hu3 (by omega));have h13:=(HBT.out.upd hu3 (show ¬ w1.heap.size=bp by omega)).lt;clear hp3 hu3;go_wp2_with fail
 refine HE3.out.mono ?_;rintro e w4 (⟨k,a,s,m,A,la,cA,B,lb,cB,x,r',rfl,hT,hR,hP,hG,hr,hU⟩ | ⟨a,er,rfl,hR,hU⟩);rotate_left
 ·have HR:=Hi hR;have HU:=Hi (HU3.out.trans hU);clear hR hU;go_wp2_with fail
  exact ⟨rfl,.inr ⟨a,er,rfl,r_par_bad hd hon HR.out,HU.out⟩⟩
 obtain ⟨u,r5,rfl⟩:=hG.cons;obtain ⟨w5,hw5⟩:∃ w5,w4.alloc (.cells #[.int .i64 (k:Int),.string ⟨s.toArray⟩,.int .u32 (m:Int),.int .i64 (a:Int),.slice A la cA,.slice B lb cB] 62)=w5:=⟨_,rfl⟩;have hb5:Below w4.heap.size w4 w5:=by rw [←hw5];exact (Below.refl _ _).alloc (Nat.le_refl _) _
 have hbn:Blk w5 w4.heap.size 62 #[.int .i64 (k:Int),.string ⟨s.toArray⟩,.int .u32 (m:Int),.int .i64 (a:Int),.slice A la cA,.slice B lb cB]:=by rw [←hw5];exact Blk.new _ _ _
 have h34:=hU.size;have h45:=hbn.lt;have HT5:=Hi ((hT.mono (N':=fun b=>w.heap.size+1≤b∧b≠w4.heap.size) fun b hb hs=>⟨by omega,by omega⟩).upd (Upd.of_below hb5 fun _=>False) (fun _ _ h=>h));have HR5:=Hi hR;have HG5:=Hi hG;have HU5:=Hi ((HU3.out.trans hU).trans (below_UB hb5));have HBT5:=Hi ((HBT3.out.upd hU (by omega)).below hb5 (by omega));have HX5:=Hi ((HX3.out.upd hU (by omega)).below hb5 (by omega));have HBN:=Hi hbn;have HW5:=Hi hw5;have hp5:=hP.below hb5;have h4b:bp < w4.heap.size:=hP.lt;simp only [List.length_cons] at hr;by_cases hv:(u.s==[41])=true
 ·have hku:u.k≠0:=by
   have:=okt_lit hG.hd (by rw [eq_of_beq hv];decide);omega
  have hgr5:=hG.tail hku;obtain ⟨t6,r6,hr6⟩:=hgr5.cons;have HM:=Hi (must_yes w5 bp d u r5 [41] hp5 hv (by rw [hr6];simp));have hon2:isS [41] u=true:=by rw [isS_eq hG.hd (by decide)];exact hv
  have HGR5:=Hi hgr5;clear hv hgr5 hr6 hw5 hb5 hbn hT hR hP hG hU hp5 hku;go_wp2_with fail
  rw [HW5.out];refine HM.out.mono ?_;rintro e w6 ⟨rfl,hp6,hu6⟩;have hX:=HX5.out.upd hu6 (show ¬ w.heap.size=bp by omega);have hY:=HBN.out.upd hu6 (show ¬ w4.heap.size=bp by omega);have hZ:=HBT5.out.upd hu6 (show ¬ w1.heap.size=bp by omega);obtain ⟨⟨e0,e1,e2,e3,e4,e5⟩,z0,z1,z2,z3,z4,z5⟩:=Blk.c6 hX;obtain ⟨⟨g0,g1,g2,g3,g4,g5⟩,y0,y1,y2,y3,y4,y5⟩:=Blk.c6 hY;obtain ⟨f0,f1,f2,x0,x1,x2⟩:=Blk.c3 hZ;have hxy:w4.heap.size≠w.heap.size:=by omega
  have HX:=Hi hX;have HP6:=Hi hp6;have HU6:=Hi hu6;clear hX hY hZ hp6 hu6;go_wp2_with fail
  have hs6:Upd (fun b=>b=w4.heap.size) w6 (w6.setCell ⟨w4.heap.size,3,none⟩ (.int .i64 (t.at_:Int))):=(Upd.refl (fun b=>b=w4.heap.size) w6).setCell (fun _=>rfl) _;refine bodyPost_ret (resNd rfl rfl (Blk.put6 (HX.out.far (Ne.symm hxy) _) _ _ _ _ _ _) rfl) rfl ?_;have hT7:=tIn_place (HT5.out.upd HU6.out fun b hb e=>by omega) t.at_;exact out_ok hlt (Nat.lt_succ_self _) ((hT7.upd hs6 fun b hb e=>hb.2 e).mono fun b hb _=>hb.1) (r_par hd hon HR5.out hon2) (HP6.out.far hs6 fun b hb=>by omega) HGR5.out (by simp;omega) ((HU5.out.trans HU6.out).setCell (fun h=>absurd h (by show ¬ w4.heap.size < w.heap.size;omega)) _)
 ·have hv':(u.s==[41])=false:=by simpa using hv
  have HM:=Hi (must_no w5 bp d u r5 [41] hp5 hv');have hon2:isS [41] u=false:=by rw [isS_eq hG.hd (by decide)];exact hv'
  clear hv hv' hw5 hb5 hbn hT hR hP hG hU hp5;go_wp2_with fail
  rw [HW5.out];refine HM.out.mono ?_;rintro e w6 ⟨rfl,hu6⟩;have HU6:=Hi hu6;clear hu6;go_wp2_with fail
  exact ⟨rfl,.inr ⟨_,_,rfl,r_par_end hd hon HR5.out hon2,HU5.out.trans HU6.out⟩⟩
theorem prim_no(w:World)(bp d:Nat)(t:Tk)(r:List Tk)(hd:d≤60)(hp:PS w bp (t :: r) d)(hg:Gt (t :: r))(h1:(isS [126] t || isS [45] t)=false)(h2:t.k≠2)(h3:t.k≠1)(hc:(t.s==[40])=false) :
  Calls Tryz.prog 173 #[.pointer (some ⟨bp,0,none⟩)] w (OutP w bp d (t :: r) (Rd numV (.lev 5) d (t :: r))):=by
 have hon:isS [40] t=false:=by rw [isS_eq hg.hd (by decide)];exact hc
 have hR:=r_nothing (num:=numV) (r:=r) hd h1 h2 hon h3;obtain ⟨w0,hw0⟩:∃ w0,w.alloc (.cells #[.int .i64 0,.string ⟨#[]⟩,.int .u32 0,.int .i64 0,.slice none 0 0,.slice none 0 0] 62)=w0:=⟨_,rfl⟩;have hb0:Below w.heap.size w w0:=by rw [←hw0];exact (Below.refl _ _).alloc (Nat.le_refl _) _
 have hq1:((t.k:Int)==2)=false:=by simp;omega
 have hq2:((t.k:Int)==1)=false:=by simp;omega
 have HN:=Hi (next w0 bp d t r (hp.below hb0));have HH:=Hi fun (w':World) (hb:Below w0.heap.size w0 w')=>here w' bp d t r 100 ((hp.below hb0).below hb)
 have HB0:=Hi hb0;have HW:=Hi hw0;have HR:=Hi hR;clear hb0 hp hw0 hg hR hon h1 h2 h3;go_enter Tryz.func173,Tryz.ntmps173;go_wp2_with fail
 rw [HW.out];refine HN.out.mono ?_;rintro e w1 ⟨rfl,hb1⟩;obtain ⟨w2,hw2⟩:∃ w2,w1.alloc (.cells #[.int .i64 (t.k:Int),.string ⟨t.s.toArray⟩,.int .i64 (t.at_:Int)] 134)=w2:=⟨_,rfl⟩;have hb2:Below w0.heap.size w0 w2:=by rw [←hw2];exact hb1.alloc hb1.size _
 have HH2:=Hi (HH.out w2 hb2);have HW2:=Hi hw2;have HU2:=Hi ((below_UB (bp:=bp) HB0.out).trans (below_UB hb2));clear hb1 hb2 hw2 HN HH;go_wp2_with fail
 rw [HW2.out];refine HH2.out.mono ?_;rintro e w3 ⟨rfl,hb3⟩;have HU3:=Hi (HU2.out.trans (below_UB hb3));clear hb3;go_wp2_with fail
 exact ⟨rfl,.inr ⟨_,_,rfl,HR.out,HU3.out⟩⟩
end
end Go.Proofs.YtdhoemlomojfaaaGreatDoor.Pa
