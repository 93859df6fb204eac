/- DERIVED. EvCl. By an AI agent. -/
import Derived.Test.YtcgibpdjfgjldaaGreatDoorT19
set_option maxRecDepth 100000
set_option maxHeartbeats 4000000
set_option linter.unusedVariables false
set_option linter.unusedSimpArgs false
open Go Go.ChangeShapes Go.WideShapes Go.ChangeAt Go.RowKit
namespace Go.Proofs.YtcgibpdjfgjldaaGreatDoor
namespace Ev
open Lx Args Pa Sh Go.Proofs.YtcgibpdjfgjldaaGreatDoor.Nm WMath Fl
theorem boxesE(w:World)(ex cs:Array Value):∃ w1,(w.alloc (.cells ex 75)).alloc (.cells cs 26)=w1/\Below w.heap.size w w1/\w1.heap.size=w.heap.size+2 /\
  Blk w1 w.heap.size 75 ex/\Blk w1 (w.heap.size+1) 26 cs:=by
 refine ⟨_,rfl,((Below.refl _ _).alloc (Nat.le_refl _) _).alloc V3 _,V3,(Blk.new w _ _).alloc _,?_⟩;have h:=Blk.new (w.alloc (.cells ex 75)) 26 cs;rw [World.size_alloc] at h;exact h
def WdC(w0:World)(cst fm:Value)(kb q:Nat)(kn:Kn)(y:Tz):Prop:=∀ (v:World) (k a:Int) (s:Bs) (n:Nat) (A:Option Addr) (la cA:Nat) (B:Option Addr) (lb cB:Nat),Below w0.heap.size w0 v->MpU v kb q kn->TrV w0 y k a s n A la cA B lb cB ->
 Calls Tryz.prog 37 #[.agg #[cst,fm],nzA k a s n A la cA B lb cB,.map (some kb)] v (WoP v (wdB kn y))
def rowA(i:Nat)(x y z:BitVec 32):Array Value:=#[if 0 < i then uV x else .int .u32 0,if 1 < i then uV y else .int .u32 0,if 2 < i then uV z else .int .u32 0]
theorem wcall{w0:World}{cst fm:Value}{kb q:Nat}{kn:Kn}{x y z:Tz}(HX:WdC w0 cst fm kb q kn x)(HY:WdC w0 cst fm kb q kn y)(HZ:WdC w0 cst fm kb q kn z)(w:World)(hb:Below w0.heap.size w0 w)(hM:MpU w kb q kn)
  (a:Int) (n:Nat) (A:Option Addr) (cA:Nat) (B:Option Addr) (lb cB:Nat) (hP:Pts w0 A cA [x,y,z]) :
  Calls Tryz.prog 82 #[.agg #[cst,fm],nzA 5 a [115,101,108] n A 3 cA B lb cB,.map (some kb)] w (WoP w (selB (wdB kn x) (wdB kn y) (wdB kn z))):=by
 obtain ⟨w1,hw1,hb1,hs1,hE1,hX1⟩:=boxesE w #[cst,fm] (nB 5 a [115,101,108] n A 3 cA B lb cB);have hM1:=hM.upd (X:=fun _=>False) (Upd.of_below hb1 fun _=>False) id;have hb01:=hb.trans (hb1.mono hb.size);obtain ⟨bb,o,k1,a1,s1,n1,A1,la1,cA1,B1,lb1,cB1,hA1,hT1,hbl1,hcel1⟩:=hP.cells (i:=0) (y:=x) rfl;subst hA1;simp only [Nat.zero_mul,Nat.add_zero] at hcel1;obtain ⟨bb2,o2,k2,a2,s2,n2,A2,la2,cA2,B2,lb2,cB2,hA2,hT2,hbl2,hcel2⟩:=hP.cells (i:=1) (y:=y) rfl;simp only [Option.some.injEq,Addr.mk.injEq,and_true] at hA2;obtain ⟨rfl,rfl⟩:=hA2;simp only [Nat.one_mul,Nat.add_assoc,Nat.reduceAdd] at hcel2;obtain ⟨bb3,o3,k3,a3,s3,n3,A3,la3,cA3,B3,lb3,cB3,hA3,hT3,hbl3,hcel3⟩:=hP.cells (i:=2) (y:=z) rfl;simp only [Option.some.injEq,Addr.mk.injEq,and_true] at hA3;obtain ⟨rfl,rfl⟩:=hA3;simp only [Nat.reduceMul,Nat.add_assoc,Nat.reduceAdd] at hcel3;have H1:=Hi fun v hv hm=>HX v k1 a1 s1 n1 A1 la1 cA1 B1 lb1 cB1 hv hm hT1
 have H2:=Hi fun v hv hm=>HY v k2 a2 s2 n2 A2 la2 cA2 B2 lb2 cB2 hv hm hT2
 have H3:=Hi fun v hv hm=>HZ v k3 a3 s3 n3 A3 la3 cA3 B3 lb3 cB3 hv hm hT3
 have HC1:=Hi hcel1;have HC2:=Hi hcel2;have HC3:=Hi hcel3;have HBL:=Hi hbl1;have HSEL:=Hi (fun (v:World) (x y z:BitVec 32)=>(show Calls Tryz.prog 110 #[uV x,uV y,uV z] v fun e w'=>e = .returned (uV (selB x y z))/\v=w' from selC x y z v));generalize wdB kn x=x2 at H1 ⊢;generalize wdB kn y=y2 at H2 ⊢;generalize wdB kn z=z2 at H3 ⊢;have hmk:∀ w:World,(Instr.makeSlice 44 (.int .i64 3) (.int .i64 3)).run Tryz.prog w = .ok (.slice (some ⟨w.heap.size,0,none⟩) 3 3) (w.alloc (.cells #[.int .u32 0,.int .u32 0,.int .u32 0] 22)):=fun _=>V1
 obtain ⟨w2,hw2,hb2,-⟩:=alK w1 #[.int .u32 0,.int .u32 0,.int .u32 0] 22;have hR2:Blk w2 (w.heap.size+2) 22 (rowA 0 x2 y2 z2):=by
  have:=Blk.new w1 22 #[.int .u32 0,.int .u32 0,.int .u32 0];rw [hs1,hw2] at this;exact this
 have hX2:=hX1.below hb2 hX1.lt;have HE2:=Hi (hE1.below hb2 hE1.lt);have HX2:=Hi hX2;have HM2:=Hi (hM1.upd (X:=fun _=>False) (Upd.of_below hb2 fun _=>False) id);have HR2:=Hi hR2;have HB2:=Hi (hb1.trans (hb2.mono hb1.size));have HB02:=Hi (hb01.trans (hb2.mono hb01.size));have HW1:=Hi hw1;have HW2:=Hi hw2;have HB1:=Hi hb1;have HS2:=Hi (show w2.heap.size=w.heap.size+3 from V0o);obtain ⟨⟨e0,e1,e2,e3,e4,e5⟩,z0,z1,z2',z3,z4,z5⟩:=Blk.c6 hX1;have hgl:=hX1.lt;have hS1:=Hi hs1;have HKB:=Hi hM.lt;have HB00:=Hi hb.size;unfold WoP;clear hb hM hT1 hT2 hT3 hcel1 hcel2 hcel3 hbl1 hbl2 hbl3 hP HX HY HZ hw1 hb1 hE1 hX1 hM1 hb01 hw2 hb2 hR2 hX2 hs1;go_enter Tryz.func82,Tryz.ntmps82;go_upto_region 1 with fail
 rw [HW1.out];have hs1:=hS1.out;go_upto_region 2 with fail
 rw [HW2.out];clear e0 e1 e2 e3 e4 e5 z0 z1 z2' z3 z4 z5 hgl;obtain ⟨⟨e0,e1,e2,e3,e4,e5⟩,z0,z1,z2',z3,z4,z5⟩:=Blk.c6 HX2.out;have hgl:=HX2.out.lt;go_wp2_with fail
 clear e0 e1 e2 e3 e4 e5 z0 z1 z2' z3 z4 z5 hgl hs1
 go_loopw [18] (fun vi wr=>∃ i:Nat,i<=3/\vi = .int .i64 (i:Int)/\Hid (Below w.heap.size w wr)/\Hid (Below w0.heap.size w0 wr)/\Hid (MpU wr kb q kn)/\Hid (Blk wr w.heap.size 75 #[cst,fm])/\Hid (Blk wr (w.heap.size+1) 26 (nB 5 a [115,101,108] n (some ⟨bb,o,none⟩) 3 cA B lb cB))/\Hid (Blk wr (w.heap.size+2) 22 (rowA i x2 y2 z2))/\Hid (kb < w.heap.size)) (fun vi _=>3 - (intOf vi).toNat)
 case atStart=>exact ⟨0,V0,rfl,HB2,HB02,HM2,HE2,HX2,HR2,HKB⟩
 case round=>
  obtain ⟨i,hi,rfl,HB,HB0,HMr,HE,HX,HR,HKB⟩:=hrel
  match i,hi with
  | 0,_=>
   obtain ⟨wb,hwb,hbb,hXb,hsb⟩:=q05 wr (nB k1 a1 s1 n1 A1 la1 cA1 B1 lb1 cB1);obtain ⟨g0,g1,g2,g3,g4,g5⟩:=HC1.out wr HB0.out;have hbl2:bb < wr.heap.size:=Nat.lt_of_lt_of_le HBL.out HB0.out.size;obtain ⟨⟨e0,e1,e2,e3,e4,e5⟩,z0,z1,z2',z3,z4,z5⟩:=Blk.c6 hXb;have hEb:=HE.out.below hbb HE.out.lt;obtain ⟨y0,y1,x0,x1⟩:=Blk.c2 hEb;have hel:=hEb.lt;have hbl:=hXb.lt;have HCL:=Hi (H1.out wb (HB0.out.trans (hbb.mono HB0.out.size)) (HMr.out.upd (X:=fun _=>False) (Upd.of_below hbb fun _=>False) id));have HWB:=Hi hwb;have HBB:=Hi hbb;clear hwb hbb hXb hsb hEb;go_upto_region 5 with fail
   rw [HWB.out];clear g0 g1 g2 g3 g4 g5;go_wp2_with fail
   refine (show Calls Tryz.prog 37 #[.agg #[cst,fm],nzA k1 a1 s1 n1 A1 la1 cA1 B1 lb1 cB1,.map (some kb)] wb _ from HCL.out).mono ?_;rintro e w4 ⟨rfl,hb4⟩;have h4:=HBB.out.trans (hb4.mono HBB.out.size);have hR4:=HR.out.below h4 HR.out.lt;unfold rowA at hR4;simp only [Nat.lt_irrefl,Nat.reduceLT,if_true,if_false] at hR4;obtain ⟨r0,r1,r2,f0,f1,f2⟩:=Blk.c3 hR4;have hrl:=hR4.lt;have hu:Upd (·=w.heap.size+2) wr (w4.setCell ⟨w.heap.size+2,0,none⟩ (uV x2)):=(Upd.of_below h4 (·=w.heap.size+2)).setCell (p:=⟨w.heap.size+2,0,none⟩) (fun _=>rfl) _;have N1:=Hi ((HB.out.trans (h4.mono HB.out.size)).setCell (p:=⟨w.heap.size+2,0,none⟩) V0T (uV x2));have N3:=Hi (HMr.out.upd hu V25);have N4:=Hi (HE.out.upd hu V0);have N5:=Hi (HX.out.upd hu V0);have N2:=Hi ((HB0.out.trans (h4.mono HB0.out.size)).setCell (p:=⟨w.heap.size+2,0,none⟩) V1K (uV x2));have N6:=Hi (show Blk (w4.setCell ⟨w.heap.size+2,0,none⟩ (uV x2)) (w.heap.size+2) 22 (rowA 1 x2 y2 z2) from hR4.set 0 (uV x2));clear hb4 h4 hR4 hu e0 e1 e2 e3 e4 e5 z0 z1 z2' z3 z4 z5 y0 y1 x0 x1 hel hbl hbl2;go_wp2_with fail
   go_roundw
   case rel=>exact ⟨1,V0,V7,N1,N2,N3,N4,N5,N6,HKB⟩
   case measure=>simp [intOf]
  | 1,_=>
   obtain ⟨wb,hwb,hbb,hXb,hsb⟩:=q05 wr (nB k2 a2 s2 n2 A2 la2 cA2 B2 lb2 cB2);obtain ⟨g0,g1,g2,g3,g4,g5⟩:=HC2.out wr HB0.out;have hbl2:bb < wr.heap.size:=Nat.lt_of_lt_of_le HBL.out HB0.out.size;obtain ⟨⟨e0,e1,e2,e3,e4,e5⟩,z0,z1,z2',z3,z4,z5⟩:=Blk.c6 hXb;have hEb:=HE.out.below hbb HE.out.lt;obtain ⟨y0,y1,x0,x1⟩:=Blk.c2 hEb;have hel:=hEb.lt;have hbl:=hXb.lt;have HCL:=Hi (H2.out wb (HB0.out.trans (hbb.mono HB0.out.size)) (HMr.out.upd (X:=fun _=>False) (Upd.of_below hbb fun _=>False) id));have HWB:=Hi hwb;have HBB:=Hi hbb;clear hwb hbb hXb hsb hEb;go_upto_region 5 with fail
   rw [HWB.out];clear g0 g1 g2 g3 g4 g5;go_wp2_with fail
   refine (show Calls Tryz.prog 37 #[.agg #[cst,fm],nzA k2 a2 s2 n2 A2 la2 cA2 B2 lb2 cB2,.map (some kb)] wb _ from HCL.out).mono ?_;rintro e w4 ⟨rfl,hb4⟩;have h4:=HBB.out.trans (hb4.mono HBB.out.size);have hR4:=HR.out.below h4 HR.out.lt;unfold rowA at hR4;simp only [Nat.lt_irrefl,Nat.reduceLT,if_true,if_false] at hR4;obtain ⟨r0,r1,r2,f0,f1,f2⟩:=Blk.c3 hR4;have hrl:=hR4.lt;have hu:Upd (·=w.heap.size+2) wr (w4.setCell ⟨w.heap.size+2,1,none⟩ (uV y2)):=(Upd.of_below h4 (·=w.heap.size+2)).setCell (p:=⟨w.heap.size+2,1,none⟩) (fun _=>rfl) _;have N1:=Hi ((HB.out.trans (h4.mono HB.out.size)).setCell (p:=⟨w.heap.size+2,1,none⟩) V0T (uV y2));have N3:=Hi (HMr.out.upd hu V25);have N4:=Hi (HE.out.upd hu V0);have N5:=Hi (HX.out.upd hu V0);have N2:=Hi ((HB0.out.trans (h4.mono HB0.out.size)).setCell (p:=⟨w.heap.size+2,1,none⟩) V1K (uV y2));have N6:=Hi (show Blk (w4.setCell ⟨w.heap.size+2,1,none⟩ (uV y2)) (w.heap.size+2) 22 (rowA 2 x2 y2 z2) from hR4.set 1 (uV y2));clear hb4 h4 hR4 hu e0 e1 e2 e3 e4 e5 z0 z1 z2' z3 z4 z5 y0 y1 x0 x1 hel hbl hbl2;go_wp2_with fail
   go_roundw
   case rel=>exact ⟨2,V0,V7,N1,N2,N3,N4,N5,N6,HKB⟩
   case measure=>simp [intOf]
  | 2,_=>
   obtain ⟨wb,hwb,hbb,hXb,hsb⟩:=q05 wr (nB k3 a3 s3 n3 A3 la3 cA3 B3 lb3 cB3);obtain ⟨g0,g1,g2,g3,g4,g5⟩:=HC3.out wr HB0.out;have hbl2:bb < wr.heap.size:=Nat.lt_of_lt_of_le HBL.out HB0.out.size;obtain ⟨⟨e0,e1,e2,e3,e4,e5⟩,z0,z1,z2',z3,z4,z5⟩:=Blk.c6 hXb;have hEb:=HE.out.below hbb HE.out.lt;obtain ⟨y0,y1,x0,x1⟩:=Blk.c2 hEb;have hel:=hEb.lt;have hbl:=hXb.lt;have HCL:=Hi (H3.out wb (HB0.out.trans (hbb.mono HB0.out.size)) (HMr.out.upd (X:=fun _=>False) (Upd.of_below hbb fun _=>False) id));have HWB:=Hi hwb;have HBB:=Hi hbb;clear hwb hbb hXb hsb hEb;go_upto_region 5 with fail
   rw [HWB.out];clear g0 g1 g2 g3 g4 g5;go_wp2_with fail
   refine (show Calls Tryz.prog 37 #[.agg #[cst,fm],nzA k3 a3 s3 n3 A3 la3 cA3 B3 lb3 cB3,.map (some kb)] wb _ from HCL.out).mono ?_;rintro e w4 ⟨rfl,hb4⟩;have h4:=HBB.out.trans (hb4.mono HBB.out.size);have hR4:=HR.out.below h4 HR.out.lt;unfold rowA at hR4;simp only [Nat.lt_irrefl,Nat.reduceLT,if_true,if_false] at hR4;obtain ⟨r0,r1,r2,f0,f1,f2⟩:=Blk.c3 hR4;have hrl:=hR4.lt;have hu:Upd (·=w.heap.size+2) wr (w4.setCell ⟨w.heap.size+2,2,none⟩ (uV z2)):=(Upd.of_below h4 (·=w.heap.size+2)).setCell (p:=⟨w.heap.size+2,2,none⟩) (fun _=>rfl) _;have N1:=Hi ((HB.out.trans (h4.mono HB.out.size)).setCell (p:=⟨w.heap.size+2,2,none⟩) V0T (uV z2));have N3:=Hi (HMr.out.upd hu V25);have N4:=Hi (HE.out.upd hu V0);have N5:=Hi (HX.out.upd hu V0);have N2:=Hi ((HB0.out.trans (h4.mono HB0.out.size)).setCell (p:=⟨w.heap.size+2,2,none⟩) V1K (uV z2));have N6:=Hi (show Blk (w4.setCell ⟨w.heap.size+2,2,none⟩ (uV z2)) (w.heap.size+2) 22 (rowA 3 x2 y2 z2) from hR4.set 2 (uV z2));clear hb4 h4 hR4 hu e0 e1 e2 e3 e4 e5 z0 z1 z2' z3 z4 z5 y0 y1 x0 x1 hel hbl hbl2;go_wp2_with fail
   go_roundw
   case rel=>exact ⟨3,V0,V7,N1,N2,N3,N4,N5,N6,HKB⟩
   case measure=>simp [intOf]
  | 3,_=>
   obtain ⟨⟨e0,e1,e2,e3,e4,e5⟩,z0,z1,z2',z3,z4,z5⟩:=Blk.c6 HX.out;have hgl:=HX.out.lt;go_wp2_with fail
   have hdr:Below wr.heap.size wr wr.drew:=Below.drew (Below.refl _ _);obtain ⟨wd,hwd⟩:∃ v,wr.drew=v:=⟨_,rfl⟩;rw [hwd] at hdr;have HRd:=Hi (HR.out.below hdr HR.out.lt);have HBd:=Hi (HB.out.trans (hdr.mono HB.out.size));clear hdr e0 e1 e2 e3 e4 e5 z0 z1 z2' z3 z4 z5 hgl;have hZ0:Below wd.heap.size wd wd:=Below.refl _ _;refine HT.wp_region (Z:=fun w'=>Below wd.heap.size wd w') (S:=fun _=>True) (st:=[]) V1 ?_;rw [hwd];clear hwd;refine HT.m 0 hZ0 ?_;refine HT.m 1 hZ0 ?_;refine HT.k 2 rfl V1r hZ0 ?_;refine HT.m 3 hZ0 ?_;refine HT.m 4 hZ0 ?_;refine HT.k 5 rfl V1r hZ0 ?_;refine HT.m 6 hZ0 ?_;refine HT.m 7 hZ0 ?_;refine HT.k 8 rfl V1r hZ0 ?_;refine HT.one (i:=9) V1 rfl (fun K hK=>?_);go_simp;refine (show Calls Tryz.prog 110 #[uV x2,uV y2,uV z2] wd _ from HSEL.out wd x2 y2 z2).mono ?_;rintro e w5 ⟨rfl,rfl⟩;(try dsimp only);refine hK.out _ _ hZ0 trivial ?_;clear hK K;(try simp only [HT.pS]);refine HT.m 10 hZ0 ?_;refine HT.done V1 ?_;clear hZ0;go_wp2_with fail
   go_ret;exact ⟨rfl,HBd.out⟩
end Ev
end Go.Proofs.YtcgibpdjfgjldaaGreatDoor
