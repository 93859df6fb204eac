/- DERIVED. RqPp, RqPb, RqCa. By an AI agent. -/
import Derived.Test.YtcgibpdjfgjldaaGreatDoorR33
import Derived.Test.YtcgibpdjfgjldaaGreatDoorR21
set_option maxRecDepth 100000
set_option maxHeartbeats 8000000
set_option linter.unusedVariables false
set_option linter.unusedSimpArgs false
open Go Go.ChangeShapes Go.WideShapes Go.ChangeAt Go.RowKit
namespace Go.Proofs.YtcgibpdjfgjldaaGreatDoor
namespace Pq
open Lx Args Pa
section
attribute [local go_sem] bH bI bJ
theorem q89(w:World)(bp d:Nat)(t:Tk)(r:List Tk)(hd:60 < d)(hp:QS w bp (t :: r) 0 0)(hg:Gt (t :: r))(hk:t.k = 2) :
  Calls Tryz.prog 118 #[.pointer (some ⟨bp,0,none⟩),.int .i64 (d:Int)] w (AU w bp (t :: r) (Rd ag (.aI 5) d (t :: r))):=by
 have hR:Rd ag (.aI 5) d (t :: r) (.bad t.at_ 150):=q3y hd;have hC:=rnum t.s (hg.ok t (List.mem_cons_self ..)).2;generalize (ag t.s).1=nv at hC;generalize (ag t.s).2=ev at hC;have HC:=Hi hC;have hki:((t.k:Int)==2)=true:=by simp [hk]
 have HR:=Hi hR;obtain ⟨w0,hw0,hb0,hB⟩:=q04 w;have hlt:=hp.lt;have Bb:=Hi (hp.below hb0);have Az:=Hi (q1A w0 bp 150 t r (hp.below hb0));have hdi:(60:Int) < (d:Int):=V0;have HB0:=Hi hb0;have HB:=Hi hB;have HW:=Hi hw0;have hbl:=hB.lt;clear hb0 hB hp hw0 hg hR hk hC;go_enter Tryz.func118,Tryz.ntmps118;go_wp2_with fail
 rw [HW.out];refine Az.out.mono ?_;rintro e w9 ⟨rfl,hp9,hu9⟩;have HT:=Hi (tok w9 bp t.at_ 150 t r hp9);have HP9:=Hi hp9;have HU9:=Hi ((q01 HB0.out).trans hu9);have HX9:=Hi (HB.out.upd hu9 V0);have h09:=hu9.size;have hlt9:=hp9.lt;clear hp9 hu9;go_wp2_with fail
 refine HT.out.mono ?_;rintro e w1 ⟨rfl,hb1⟩;obtain ⟨w2,hw2,-,hbt⟩:=aS w1 #[.int .i64 (t.k:Int),.string ⟨t.s.toArray⟩,.int .i64 (t.at_:Int)] 63;have hb2:Below w9.heap.size w9 w2:=Vg;have h91:=hb1.size;have h12:=hbt.lt;have Ar:=Hi (HP9.out.below hb2);have HW2:=Hi hw2;have Ai:=Hi (HU9.out.trans (q01 hb2));have HBT:=Hi hbt;have Ah:=Hi (HX9.out.below hb2 HX9.out.lt);clear hb1 hb2 hw2 hbt HT Az HP9 HU9 HX9;have HG1:=Hi (q03 w2 bp t.at_ 150 t r [126] Ar.out (.inl V2));go_wp2_with fail
 rw [HW2.out];refine HG1.out.mono ?_;rintro e wa ⟨rfl,aL⟩;have HG2:=Hi (q03 wa bp t.at_ 150 t r [45] (Ar.out.below aL) (.inl V2));have AA:=Hi aL;clear aL;go_wp2_with fail
 refine HG2.out.mono ?_;rintro e w3 ⟨rfl,hb3⟩;have aG:=AA.out.trans (hb3.mono AA.out.size);have h23:=aG.size;have bF:=HBT.out.below aG h12;obtain ⟨f0,f1,f2,y0,y1,y2⟩:=Aa.c3 bF;have h13:=bF.lt;have HP3:=Hi (Ar.out.below aG);have Aw:=Hi (Ai.out.trans (q01 aG));have AV:=Hi bF;have Aq:=Hi (Ah.out.below aG Ah.out.lt);clear hb3 aG bF HG1 HG2 AA Ar Ai HBT Ah HW2;go_wp2_with fail
 refine (HC.out _).mono ?_;rintro e w4 ⟨rfl,hb4⟩;have h34:=hb4.size;have HP4:=Hi (HP3.out.below hb4);have AO:=Hi (Aw.out.trans (q01 hb4));have Bd:=Hi (AV.out.below hb4 h13);have Ba:=Hi (Aq.out.below hb4 Aq.out.lt);clear hb4 HP3 Aw AV Aq f0 f1 f2 y0 y1 y2;go_wp2_with fail
 refine (q0n w4 bp t.at_ 150 100 _ t r HP4.out (.inr V2)).mono ?_;rintro e w' ⟨rfl,rfl⟩;go_wp2_with fail
 refine (q0n w4 bp t.at_ 150 150 _ t r HP4.out (.inr V2)).mono ?_;rintro e w' ⟨rfl,rfl⟩;go_wp2_with fail
 refine (q74 w4 bp t.at_ 150 t r HP4.out V2).mono ?_;rintro e w6 ⟨rfl,hb6⟩;have hbt:=Bd.out.below hb6 V0;have hx:=Ba.out.below hb6 Ba.out.lt;have HP6:=Hi (HP4.out.below hb6);have HU6:=Hi (AO.out.trans (q01 hb6));have h46:=hb6.size;clear hb6;obtain ⟨f0,f1,f2,y0,y1,y2⟩:=Aa.c3 hbt;obtain ⟨⟨e0,e1,e2,e3,e4,e5⟩,z0,z1,z2,z3,z4,z5⟩:=Aa.c6 hx;have H1:=Hi hx;clear hbt hx;go_wp2_with fail
 refine bodyPost_ret (aH rfl rfl (Aa.az H1.out _ _ _ _ _ _) rfl) rfl ?_;exact q1e 0 t.at_ nv 0 0 0 0 [] none none hlt V2 HR.out HP6.out HU6.out
theorem q8a(w:World)(bp d:Nat)(t:Tk)(r:List Tk)(hd:60 < d)(hp:QS w bp (t :: r) 0 0)(hg:Gt (t :: r))(hk:t.k≠2) :
  Calls Tryz.prog 118 #[.pointer (some ⟨bp,0,none⟩),.int .i64 (d:Int)] w (AU w bp (t :: r) (Rd ag (.aI 5) d (t :: r))):=by
 have hR:Rd ag (.aI 5) d (t :: r) (.bad t.at_ 150):=q3y hd;have hki:((t.k:Int)==2)=false:=V4;have HR:=Hi hR;obtain ⟨w0,hw0,hb0,hB⟩:=q04 w;have hlt:=hp.lt;have Bb:=Hi (hp.below hb0);have Az:=Hi (q1A w0 bp 150 t r (hp.below hb0));have hdi:(60:Int) < (d:Int):=V0;have HB0:=Hi hb0;have HB:=Hi hB;have HW:=Hi hw0;have hbl:=hB.lt;clear hb0 hB hp hw0 hg hR hk;go_enter Tryz.func118,Tryz.ntmps118;go_wp2_with fail
 rw [HW.out];refine Az.out.mono ?_;rintro e w9 ⟨rfl,hp9,hu9⟩;have HT:=Hi (tok w9 bp t.at_ 150 t r hp9);have HP9:=Hi hp9;have HU9:=Hi ((q01 HB0.out).trans hu9);have HX9:=Hi (HB.out.upd hu9 V0);have h09:=hu9.size;have hlt9:=hp9.lt;clear hp9 hu9;go_wp2_with fail
 refine HT.out.mono ?_;rintro e w1 ⟨rfl,hb1⟩;obtain ⟨w2,hw2,-,hbt⟩:=aS w1 #[.int .i64 (t.k:Int),.string ⟨t.s.toArray⟩,.int .i64 (t.at_:Int)] 63;have hb2:Below w9.heap.size w9 w2:=Vg;have h91:=hb1.size;have h12:=hbt.lt;have Ar:=Hi (HP9.out.below hb2);have HW2:=Hi hw2;have Ai:=Hi (HU9.out.trans (q01 hb2));have HBT:=Hi hbt;have Ah:=Hi (HX9.out.below hb2 HX9.out.lt);clear hb1 hb2 hw2 hbt HT Az HP9 HU9 HX9;have HG1:=Hi (q03 w2 bp t.at_ 150 t r [126] Ar.out (.inl V2));go_wp2_with fail
 rw [HW2.out];refine HG1.out.mono ?_;rintro e wa ⟨rfl,aL⟩;have HG2:=Hi (q03 wa bp t.at_ 150 t r [45] (Ar.out.below aL) (.inl V2));have AA:=Hi aL;clear aL;go_wp2_with fail
 refine HG2.out.mono ?_;rintro e w3 ⟨rfl,hb3⟩;have aG:=AA.out.trans (hb3.mono AA.out.size);have h23:=aG.size;have bF:=HBT.out.below aG h12;obtain ⟨f0,f1,f2,y0,y1,y2⟩:=Aa.c3 bF;have h13:=bF.lt;have HP3:=Hi (Ar.out.below aG);have Aw:=Hi (Ai.out.trans (q01 aG));have AV:=Hi bF;have Aq:=Hi (Ah.out.below aG Ah.out.lt);clear hb3 aG bF HG1 HG2 AA Ar Ai HBT Ah HW2;go_wp2_with fail
 refine (q03 w3 bp t.at_ 150 t r [40] HP3.out (.inl V2)).mono ?_;rintro e w4 ⟨rfl,hb4⟩;have h34:=hb4.size;have HP4:=Hi (HP3.out.below hb4);have AO:=Hi (Aw.out.trans (q01 hb4));have Bd:=Hi (AV.out.below hb4 V0);have Ba:=Hi (Aq.out.below hb4 Aq.out.lt);clear hb4 HP3 Aw AV Aq;clear f0 f1 f2 y0 y1 y2;go_wp2_with fail
 refine (q4w w4 bp t.at_ 150 t r HP4.out V2).mono ?_;rintro e w5 ⟨rfl,hb5⟩;have h45:=hb5.size;have HP5:=Hi (HP4.out.below hb5);have AR:=Hi (AO.out.trans (q01 hb5));have HBT5:=Hi (Bd.out.below hb5 V0);have AX:=Hi (Ba.out.below hb5 Ba.out.lt);clear hb5 HP4 AO Bd Ba;go_wp2_with fail
 refine (q03 w5 bp t.at_ 150 t r [40] HP5.out (.inl V2)).mono ?_;rintro e w6 ⟨rfl,hb6⟩;have h56:=hb6.size;have HP6:=Hi (HP5.out.below hb6);have HU6:=Hi (AR.out.trans (q01 hb6));have HBT6:=Hi (HBT5.out.below hb6 V0);have HX6:=Hi (AX.out.below hb6 AX.out.lt);clear hb6 HP5 AR HBT5 AX;obtain ⟨f0,f1,f2,y0,y1,y2⟩:=Aa.c3 HBT6.out;have h16:=HBT6.out.lt;go_wp2_with fail
 refine (node w6 1 t.at_ t.s none 0 0).mono ?_;rintro e w8 ⟨rfl,hb8⟩;clear f0 f1 f2 y0 y1 y2;have hbt:=HBT6.out.below hb8 V0;have hx:=HX6.out.below hb8 HX6.out.lt;have HP8:=Hi (HP6.out.below hb8);have HU8:=Hi (HU6.out.trans (q01 hb8));have h58:=hb8.size;clear hb8;obtain ⟨⟨e0,e1,e2,e3,e4,e5⟩,z0,z1,z2,z3,z4,z5⟩:=Aa.c6 hx;have H1:=Hi hx;clear hbt hx;go_wp2_with fail
 refine bodyPost_ret (aH rfl rfl (Aa.az H1.out _ _ _ _ _ _) rfl) rfl ?_;exact q1e 1 t.at_ 0 0 0 0 0 t.s none none hlt V2 HR.out HP8.out HU8.out
theorem q5F(w:World)(bp d:Nat)(t:Tk)(r:List Tk)(hd:d<=60)(hp:QS w bp (t :: r) 0 0)(h126:ak [126] t=false)(h45:ak [45] t=false)(hk:t.k≠2)(h40:ak [40] t=false)(hk1:t.k≠1) :
  Calls Tryz.prog 118 #[.pointer (some ⟨bp,0,none⟩),.int .i64 (d:Int)] w (AU w bp (t :: r) (Rd ag (.aI 5) d (t :: r))):=by
 have hR:=q44 (num:=ag) (r:=r) hd (by simp [h126,h45]) hk h40 hk1;have hki:((t.k:Int)==2)=false:=V4;have HR:=Hi hR;have H126:=Hi h126;have H45:=Hi h45;have H40:=Hi h40;have HK1:=Hi hk1;obtain ⟨w0,hw0,hb0,hB⟩:=q04 w;have hlt:=hp.lt;have Bb:=Hi (hp.below hb0);have Az:=Hi (q0n w0 bp 0 0 150 false t r (hp.below hb0) (.inl rfl));have HT:=Hi (tok w0 bp 0 0 t r (hp.below hb0));have hdi:¬ (60:Int) < (d:Int):=V0;have HB0:=Hi hb0;have HB:=Hi hB;have HW:=Hi hw0;have hbl:=hB.lt;clear hb0 hB hp hw0 hR hk h126 h45 h40 hk1;go_enter Tryz.func118,Tryz.ntmps118;go_wp2_with fail
 rw [HW.out];refine Az.out.mono ?_;rintro e w' ⟨rfl,rfl⟩;go_wp2_with fail
 refine HT.out.mono ?_;rintro e w1 ⟨rfl,hb1⟩;obtain ⟨w2,hw2,-,hbt⟩:=aS w1 #[.int .i64 (t.k:Int),.string ⟨t.s.toArray⟩,.int .i64 (t.at_:Int)] 63;have hb2:Below w0.heap.size w0 w2:=Vg;have h01:=hb1.size;have h12:=hbt.lt;have Ar:=Hi (Bb.out.below hb2);have HW2:=Hi hw2;have Ai:=Hi ((q01 (bp:=bp) HB0.out).trans (q01 hb2));have HBT:=Hi hbt;have Ah:=Hi (HB.out.below hb2 HB.out.lt);clear hb1 hb2 hw2 hbt HT Az Bb;have HG1:=Hi (q03 w2 bp 0 0 t r [126] Ar.out (.inr H126.out));go_wp2_with fail
 rw [HW2.out];refine HG1.out.mono ?_;rintro e wa ⟨rfl,aL⟩;have HG2:=Hi (q03 wa bp 0 0 t r [45] (Ar.out.below aL) (.inr H45.out));have AA:=Hi aL;clear aL;go_wp2_with fail
 refine HG2.out.mono ?_;rintro e w3 ⟨rfl,hb3⟩;have aG:=AA.out.trans (hb3.mono AA.out.size);have h23:=aG.size;have bF:=HBT.out.below aG h12;obtain ⟨f0,f1,f2,y0,y1,y2⟩:=Aa.c3 bF;have h13:=bF.lt;have HP3:=Hi (Ar.out.below aG);have Aw:=Hi (Ai.out.trans (q01 aG));have AV:=Hi bF;have Aq:=Hi (Ah.out.below aG Ah.out.lt);clear hb3 aG bF HG1 HG2 AA Ar Ai HBT Ah HW2;go_wp2_with fail
 refine (q03 w3 bp 0 0 t r [40] HP3.out (.inr H40.out)).mono ?_;rintro e w4 ⟨rfl,hb4⟩;have h34:=hb4.size;have HP4:=Hi (HP3.out.below hb4);have AO:=Hi (Aw.out.trans (q01 hb4));have Bd:=Hi (AV.out.below hb4 V0);have Ba:=Hi (Aq.out.below hb4 Aq.out.lt);clear hb4 HP3 Aw AV Aq;clear f0 f1 f2 y0 y1 y2;go_wp2_with fail
 refine (name_no w4 bp t r HP4.out HK1.out).mono ?_;rintro e w5 ⟨rfl,hp5,bn⟩;have h45':=bn.size;have HP5:=Hi hp5;have AR:=Hi (AO.out.trans bn);have HBT5:=Hi (Bd.out.upd bn V0);have AX:=Hi (Ba.out.upd bn V0);clear hp5 bn;go_wp2_with fail
 refine (q03 w5 bp t.at_ 100 t r [40] HP5.out (.inl V2)).mono ?_;rintro e w6 ⟨rfl,hb6⟩;have h56:=hb6.size;have HP6:=Hi (HP5.out.below hb6);have HU6:=Hi (AR.out.trans (q01 hb6));have HBT6:=Hi (HBT5.out.below hb6 V0);have HX6:=Hi (AX.out.below hb6 AX.out.lt);clear hb6 HP5 AR HBT5 AX;obtain ⟨f0,f1,f2,y0,y1,y2⟩:=Aa.c3 HBT6.out;have h16:=HBT6.out.lt;go_wp2_with fail
 refine (node w6 1 t.at_ t.s none 0 0).mono ?_;rintro e w8 ⟨rfl,hb8⟩;clear f0 f1 f2 y0 y1 y2;have hbt:=HBT6.out.below hb8 V0;have hx:=HX6.out.below hb8 HX6.out.lt;have HP8:=Hi (HP6.out.below hb8);have HU8:=Hi (HU6.out.trans (q01 hb8));have h58:=hb8.size;clear hb8;obtain ⟨⟨e0,e1,e2,e3,e4,e5⟩,z0,z1,z2,z3,z4,z5⟩:=Aa.c6 hx;have H1:=Hi hx;clear hbt hx;go_wp2_with fail
 refine bodyPost_ret (aH rfl rfl (Aa.az H1.out _ _ _ _ _ _) rfl) rfl ?_;exact q1e 1 t.at_ 0 0 0 0 0 t.s none none hlt V2 HR.out HP8.out HU8.out
theorem un_name(w:World)(bp d:Nat)(t u:Tk)(q:List Tk)(hd:d<=60)(hp:QS w bp (t :: u :: q) 0 0)(hg:Gt (t :: u :: q))(hk:t.k = 1)(hu:ak [40] u=false) :
  Calls Tryz.prog 118 #[.pointer (some ⟨bp,0,none⟩),.int .i64 (d:Int)] w (AU w bp (t :: u :: q) (Rd ag (.aI 5) d (t :: u :: q))):=by
 have hR:=q8t (num:=ag) (r:=q) hd hk hu;have h126:ak [126] t=false:=q0s V0 _;have h45:ak [45] t=false:=q0s V0 _;have h40:ak [40] t=false:=q0s V0 _;have hgr:=hg.tail V0;have hki:((t.k:Int)==2)=false:=V4;obtain ⟨r,hr⟩:∃ r,u :: q=r:=⟨_,rfl⟩;have hne:r≠[]:=by rw [<-hr];simp
 rw [hr] at hp hR hgr ⊢;have HR:=Hi hR;have H126:=Hi h126;have H45:=Hi h45;have H40:=Hi h40;have HK1:=Hi hk;have HUU:=Hi hu;have HGR:=Hi hgr;have HNE:=Hi hne;have HRR:=Hi hr;obtain ⟨w0,hw0,hb0,hB⟩:=q04 w;have hlt:=hp.lt;have Bb:=Hi (hp.below hb0);have Az:=Hi (q0n w0 bp 0 0 150 false t r (hp.below hb0) (.inl rfl));have HT:=Hi (tok w0 bp 0 0 t r (hp.below hb0));have hdi:¬ (60:Int) < (d:Int):=V0;have HB0:=Hi hb0;have HB:=Hi hB;have HW:=Hi hw0;have hbl:=hB.lt;clear hb0 hB hp hw0 hR hk h126 h45 h40 hu hgr hg hne hr;go_enter Tryz.func118,Tryz.ntmps118;go_wp2_with fail
 rw [HW.out];refine Az.out.mono ?_;rintro e w' ⟨rfl,rfl⟩;go_wp2_with fail
 refine HT.out.mono ?_;rintro e w1 ⟨rfl,hb1⟩;obtain ⟨w2,hw2,-,hbt⟩:=aS w1 #[.int .i64 (t.k:Int),.string ⟨t.s.toArray⟩,.int .i64 (t.at_:Int)] 63;have hb2:Below w0.heap.size w0 w2:=Vg;have h01:=hb1.size;have h12:=hbt.lt;have Ar:=Hi (Bb.out.below hb2);have HW2:=Hi hw2;have Ai:=Hi ((q01 (bp:=bp) HB0.out).trans (q01 hb2));have HBT:=Hi hbt;have Ah:=Hi (HB.out.below hb2 HB.out.lt);clear hb1 hb2 hw2 hbt HT Az Bb;have HG1:=Hi (q03 w2 bp 0 0 t r [126] Ar.out (.inr H126.out));go_wp2_with fail
 rw [HW2.out];refine HG1.out.mono ?_;rintro e wa ⟨rfl,aL⟩;have HG2:=Hi (q03 wa bp 0 0 t r [45] (Ar.out.below aL) (.inr H45.out));have AA:=Hi aL;clear aL;go_wp2_with fail
 refine HG2.out.mono ?_;rintro e w3 ⟨rfl,hb3⟩;have aG:=AA.out.trans (hb3.mono AA.out.size);have h23:=aG.size;have bF:=HBT.out.below aG h12;obtain ⟨f0,f1,f2,y0,y1,y2⟩:=Aa.c3 bF;have h13:=bF.lt;have HP3:=Hi (Ar.out.below aG);have Aw:=Hi (Ai.out.trans (q01 aG));have AV:=Hi bF;have Aq:=Hi (Ah.out.below aG Ah.out.lt);clear hb3 aG bF HG1 HG2 AA Ar Ai HBT Ah HW2;go_wp2_with fail
 refine (q03 w3 bp 0 0 t r [40] HP3.out (.inr H40.out)).mono ?_;rintro e w4 ⟨rfl,hb4⟩;have h34:=hb4.size;have HP4:=Hi (HP3.out.below hb4);have AO:=Hi (Aw.out.trans (q01 hb4));have Bd:=Hi (AV.out.below hb4 V0);have Ba:=Hi (Aq.out.below hb4 Aq.out.lt);clear hb4 HP3 Aw AV Aq;clear f0 f1 f2 y0 y1 y2;go_wp2_with fail
 refine (name_yes w4 bp t r HP4.out HK1.out HNE.out).mono ?_;rintro e w5 ⟨rfl,hp5,bn⟩;have h45':=bn.size;rw [<-HRR.out] at hp5;have HP5:=Hi hp5;have AR:=Hi (AO.out.trans bn);have HBT5:=Hi (Bd.out.upd bn V0);have AX:=Hi (Ba.out.upd bn V0);clear hp5 bn;go_wp2_with fail
 refine (q03 w5 bp 0 0 u q [40] HP5.out (.inr HUU.out)).mono ?_;rintro e w6 ⟨rfl,hb6⟩;have h56:=hb6.size;have HP6:=Hi (HP5.out.below hb6);have HU6:=Hi (AR.out.trans (q01 hb6));have HBT6:=Hi (HBT5.out.below hb6 V0);have HX6:=Hi (AX.out.below hb6 AX.out.lt);clear hb6 HP5 AR HBT5 AX;obtain ⟨f0,f1,f2,y0,y1,y2⟩:=Aa.c3 HBT6.out;have h16:=HBT6.out.lt;go_wp2_with fail
 refine (node w6 1 t.at_ t.s none 0 0).mono ?_;rintro e w8 ⟨rfl,hb8⟩;clear f0 f1 f2 y0 y1 y2;have hbt:=HBT6.out.below hb8 V0;have hx:=HX6.out.below hb8 HX6.out.lt;have HP8:=Hi (HP6.out.below hb8);have HU8:=Hi (HU6.out.trans (q01 hb8));have h58:=hb8.size;clear hb8;obtain ⟨⟨e0,e1,e2,e3,e4,e5⟩,z0,z1,z2,z3,z4,z5⟩:=Aa.c6 hx;have H1:=Hi hx;clear hbt hx;go_wp2_with fail
 refine bodyPost_ret (aH rfl rfl (Aa.az H1.out _ _ _ _ _ _) rfl) rfl ?_;have hp8:=HP8.out;rw [HRR.out] at hp8;exact q5E (lo:=w.heap.size+1) hlt (Nat.lt_succ_self _) (q1S _ 1 t.at_ 0 t.s) HR.out hp8 HGR.out V3 HU8.out
end
section
attribute [local go_sem] bH bI bJ
theorem q8b{N:Nat->Prop}{w:World}{x:Tr}{k a s n A la cA B lb cB}(h:Ak N w x (bG k a s n A la cA B lb cB))(a':Nat):Ak N w (x.put a') (bG k a' s n A la cA B lb cB):=by
 cases x with
 | mk k1 a1 s1 n1 ps l=>
  exact V2E
theorem un_par{n:Nat}(H:ExQ n)(w:World)(bp d:Nat)(t:Tk)(r:List Tk)(hn:r.length<=n)(hd:d<=60)(hp:QS w bp (t :: r) 0 0)(hg:Gt (t :: r))(h40:ak [40] t=true) :
  Calls Tryz.prog 118 #[.pointer (some ⟨bp,0,none⟩),.int .i64 (d:Int)] w (AU w bp (t :: r) (Rd ag (.aI 5) d (t :: r))):=by
 have hgr:=hg.tail (q1o h40);obtain ⟨t2,r2,hr2⟩:=hgr.cons;have hne:r≠[]:=Vf;have hpk:=par_k h40;have h126:ak [126] t=false:=by have:=hpk.1;simp at this;exact this.1
 have h45:ak [45] t=false:=by have:=hpk.1;simp at this;exact this.2
 have hki:((t.k:Int)==2)=false:=by have:=hpk.2;simp;omega
 have HGR:=Hi hgr;have HNE:=Hi hne;have HON:=Hi h40;have H126:=Hi h126;have H45:=Hi h45;obtain ⟨w0,hw0,hb0,hB⟩:=q04 w;have hlt:=hp.lt;have Bb:=Hi (hp.below hb0);have Az:=Hi (q0n w0 bp 0 0 150 false t r (hp.below hb0) (.inl rfl));have HT:=Hi (tok w0 bp 0 0 t r (hp.below hb0));have hdi:¬ (60:Int) < (d:Int):=V0;have HB0:=Hi hb0;have HB:=Hi hB;have HW:=Hi hw0;have hbl:=hB.lt;clear hb0 hB hp hw0 hg hgr hne h40 hpk h126 h45 hr2;go_enter Tryz.func118,Tryz.ntmps118;go_wp2_with fail
 rw [HW.out];refine Az.out.mono ?_;rintro e w' ⟨rfl,rfl⟩;go_wp2_with fail
 refine HT.out.mono ?_;rintro e w1 ⟨rfl,hb1⟩;obtain ⟨w2,hw2,-,hbt⟩:=aS w1 #[.int .i64 (t.k:Int),.string ⟨t.s.toArray⟩,.int .i64 (t.at_:Int)] 63;have hb2:Below w0.heap.size w0 w2:=Vg;have h01:=hb1.size;have h12:=hbt.lt;have Ar:=Hi (Bb.out.below hb2);have HW2:=Hi hw2;have Ai:=Hi ((q01 (bp:=bp) HB0.out).trans (q01 hb2));have HBT:=Hi hbt;have Ah:=Hi (HB.out.below hb2 HB.out.lt);clear hb1 hb2 hw2 hbt HT Az Bb;have HG1:=Hi (q03 w2 bp 0 0 t r [126] Ar.out (.inr H126.out));go_wp2_with fail
 rw [HW2.out];refine HG1.out.mono ?_;rintro e wa ⟨rfl,aL⟩;have HG2:=Hi (q03 wa bp 0 0 t r [45] (Ar.out.below aL) (.inr H45.out));have AA:=Hi aL;clear aL;go_wp2_with fail
 refine HG2.out.mono ?_;rintro e w3 ⟨rfl,hb3⟩;have aG:=AA.out.trans (hb3.mono AA.out.size);have h23:=aG.size;have bF:=HBT.out.below aG h12;obtain ⟨f0,f1,f2,y0,y1,y2⟩:=Aa.c3 bF;have h13:=bF.lt;have HP3:=Hi (Ar.out.below aG);have Aw:=Hi (Ai.out.trans (q01 aG));have AV:=Hi bF;have Aq:=Hi (Ah.out.below aG Ah.out.lt);clear hb3 aG bF HG1 HG2 AA Ar Ai HBT Ah HW2;go_wp2_with fail
 refine (q0p w3 bp t r [40] HP3.out HON.out HNE.out).mono ?_;rintro e w4 ⟨rfl,hp4,aF⟩;have HE:=Hi (H w4 bp (d+1) r hn hp4 HGR.out);have AO:=Hi (Aw.out.trans aF);have Bd:=Hi (AV.out.upd aF V0);have Ba:=Hi (Aq.out.upd aF V0);have h34:=aF.size;clear hp4 aF HP3 Aw AV Aq f0 f1 f2 y0 y1 y2;go_wp2_with fail
 refine HE.out.mono ?_;rintro e w5 ⟨k,a,s,m,A,la,cA,B,lb,cB,rfl,hU,hO⟩;obtain ⟨w6,hw6,hb6,hbn⟩:=aS w5 #[.int .i64 (k:Int),.string ⟨s.toArray⟩,.int .u32 (m:Int),.int .i64 (a:Int),.slice A la cA,.slice B lb cB] 26;have h45':=hU.size;have h56:=hbn.lt;have hlt5:bp < w5.heap.size:=V0;have HX6:=Hi ((Ba.out.upd hU (show ¬ w.heap.size=bp from V0)).below hb6 V0);have HBT6:=Hi ((Bd.out.upd hU (show ¬ w1.heap.size=bp from V0)).below hb6 V0);have HU6:=Hi ((AO.out.trans hU).trans (q01 hb6));have HB6:=Hi hb6;have HW6:=Hi hw6;have HBN:=Hi hbn;have HO:=Hi hO;clear hU hO hb6 hw6 hbn HE AO Bd Ba;rcases HO.out with ⟨x,r',hT,hR,hP,hG,hr⟩ | ⟨ba,er,u,r',he,hR,hP⟩
 ·obtain ⟨u,r5,rfl⟩:=hG.cons;have HT6:=Hi ((hT.mono (N':=fun b=>w.heap.size+1<=b/\b≠w5.heap.size) fun b hb hs=>⟨V0,V0⟩).upd (Upd.of_below HB6.out fun _=>False) (fun _ _ h=>h));have HR5:=Hi hR;have HG5:=Hi hG;have HP6:=Hi (hP.below HB6.out);clear hT hR hP hG HO;by_cases hv:ak [41] u=true
  ·have hne5:r5≠[]:=by
    obtain ⟨t6,r6,hr6⟩:=(HG5.out.tail (q1o hv)).cons;rw [hr6];simp
   have HV:=Hi (must_yes w6 bp u r5 [41] HP6.out hv hne5);have HVV:=Hi hv;clear hne5 hv;go_wp2_with fail
   rw [HW6.out];refine HV.out.mono ?_;rintro e w7 ⟨rfl,hp7,hu7⟩;have HP7:=Hi hp7;have HU67:=Hi hu7;clear hp7 hu7 HV;have hX:=HX6.out.upd HU67.out (show ¬ w.heap.size=bp from V0);have hY:=HBN.out.upd HU67.out (show ¬ w5.heap.size=bp from V0);have hZ:=HBT6.out.upd HU67.out (show ¬ w1.heap.size=bp from V0);obtain ⟨⟨e0,e1,e2,e3,e4,e5⟩,z0,z1,z2,z3,z4,z5⟩:=Aa.c6 hX;obtain ⟨⟨g0,g1,g2,g3,g4,g5⟩,x0,x1,x2,x3,x4,x5⟩:=Aa.c6 hY;obtain ⟨f0,f1,f2,y0,y1,y2⟩:=Aa.c3 hZ;have hxy:w5.heap.size≠w.heap.size:=V0;have h67:=HU67.out.size;have HX:=Hi hX;clear hX hY hZ;go_wp2_with fail
   have hs7:Upd (fun b=>b=w5.heap.size) w7 (w7.setCell ⟨w5.heap.size,3,none⟩ (.int .i64 (t.at_:Int))):=(Upd.refl (fun b=>b=w5.heap.size) w7).setCell (fun _=>rfl) _;have hU8:UB bp w (w7.setCell ⟨w5.heap.size,3,none⟩ (.int .i64 (t.at_:Int))):=(HU6.out.trans HU67.out).setCell (fun h=>absurd h V1R) _;refine bodyPost_ret (aH rfl rfl (Aa.az (HX.out.far (Ne.symm hxy) _) _ _ _ _ _ _) rfl) rfl ?_;have hT7:=q8b (HT6.out.upd HU67.out fun b hb e=>V0) t.at_;exact q5E (lo:=w.heap.size+1) hlt (Nat.lt_succ_self _) ((hT7.upd hs7 fun b hb e=>hb.2 e).mono fun b hb _=>hb.1) (r_par hd HON.out HR5.out HVV.out) (HP7.out.far hs7 fun b hb=>V0) (HG5.out.tail (q1o HVV.out)) V13 hU8
  ·have hv':ak [41] u=false:=by simpa using hv
   have HV:=Hi (must_no w6 bp u r5 [41] HP6.out hv');have HVV:=Hi hv';clear hv hv';go_wp2_with fail
   rw [HW6.out];refine HV.out.mono ?_;rintro e w7 ⟨rfl,hp7,hu7⟩;have HP7:=Hi hp7;have HU67:=Hi hu7;clear hp7 hu7 HV;have hX:=HX6.out.upd HU67.out (show ¬ w.heap.size=bp from V0);have hY:=HBN.out.upd HU67.out (show ¬ w5.heap.size=bp from V0);have hZ:=HBT6.out.upd HU67.out (show ¬ w1.heap.size=bp from V0);obtain ⟨⟨e0,e1,e2,e3,e4,e5⟩,z0,z1,z2,z3,z4,z5⟩:=Aa.c6 hX;obtain ⟨⟨g0,g1,g2,g3,g4,g5⟩,x0,x1,x2,x3,x4,x5⟩:=Aa.c6 hY;obtain ⟨f0,f1,f2,y0,y1,y2⟩:=Aa.c3 hZ;have hxy:w5.heap.size≠w.heap.size:=V0;have h67:=HU67.out.size;have HX:=Hi hX;clear hX hY hZ;go_wp2_with fail
   have hs7:Upd (fun b=>b=w5.heap.size) w7 (w7.setCell ⟨w5.heap.size,3,none⟩ (.int .i64 (t.at_:Int))):=(Upd.refl (fun b=>b=w5.heap.size) w7).setCell (fun _=>rfl) _;have hU8:UB bp w (w7.setCell ⟨w5.heap.size,3,none⟩ (.int .i64 (t.at_:Int))):=(HU6.out.trans HU67.out).setCell (fun h=>absurd h V1R) _;refine bodyPost_ret (aH rfl rfl (Aa.az (HX.out.far (Ne.symm hxy) _) _ _ _ _ _ _) rfl) rfl ?_;exact q1e k t.at_ m la cA lb cB s A B hlt V2 (q42 hd HON.out HR5.out HVV.out) (HP7.out.far hs7 fun b hb=>V0) hU8
 ·have HR5:=Hi hR;have HP6:=Hi (hP.below HB6.out);have HV:=Hi (q2Z w6 bp ba er u r' [41] (hP.below HB6.out) he);clear hR hP HO;go_wp2_with fail
  rw [HW6.out];refine HV.out.mono ?_;rintro e w7 ⟨rfl,bO⟩;have HP7:=Hi (HP6.out.below bO);have HU67:=Hi (q01 (bp:=bp) bO);clear bO HV;have hX:=HX6.out.upd HU67.out (show ¬ w.heap.size=bp from V0);have hY:=HBN.out.upd HU67.out (show ¬ w5.heap.size=bp from V0);have hZ:=HBT6.out.upd HU67.out (show ¬ w1.heap.size=bp from V0);obtain ⟨⟨e0,e1,e2,e3,e4,e5⟩,z0,z1,z2,z3,z4,z5⟩:=Aa.c6 hX;obtain ⟨⟨g0,g1,g2,g3,g4,g5⟩,x0,x1,x2,x3,x4,x5⟩:=Aa.c6 hY;obtain ⟨f0,f1,f2,y0,y1,y2⟩:=Aa.c3 hZ;have hxy:w5.heap.size≠w.heap.size:=V0;have h67:=HU67.out.size;have HX:=Hi hX;clear hX hY hZ;go_wp2_with fail
  have hs7:Upd (fun b=>b=w5.heap.size) w7 (w7.setCell ⟨w5.heap.size,3,none⟩ (.int .i64 (t.at_:Int))):=(Upd.refl (fun b=>b=w5.heap.size) w7).setCell (fun _=>rfl) _;have hU8:UB bp w (w7.setCell ⟨w5.heap.size,3,none⟩ (.int .i64 (t.at_:Int))):=(HU6.out.trans HU67.out).setCell (fun h=>absurd h V1R) _;refine bodyPost_ret (aH rfl rfl (Aa.az (HX.out.far (Ne.symm hxy) _) _ _ _ _ _ _) rfl) rfl ?_;exact q1e k t.at_ m la cA lb cB s A B hlt he (q43 hd HON.out HR5.out) (HP7.out.far hs7 fun b hb=>V0) hU8
end
section
attribute [local go_sem] bH bI bJ
def meQ(w:World)(bp:Nat):Nat:=match w.cell? ⟨bp,3,none⟩ with
 | some (.int _ 0)=>(match w.cell? ⟨bp,0,none⟩,w.cell? ⟨bp,1,none⟩ with | some (.slice _ n _),some (.int _ a)=>n - a.toNat+1 | _,_=>0)
 | _=>0
theorem QS.me{w:World}{bp ba:Nat}{l:List Tk}(h:QS w bp l ba 0):meQ w bp=l.length+1:=by
 obtain ⟨b,o,c,pre,_,h1,_⟩:=h;unfold meQ;rw [show w.cell? ⟨bp,3,none⟩=some (.int .i64 0) from h1.cell 3,show w.cell? ⟨bp,0,none⟩=some (.slice (some ⟨b,o,none⟩) (pre.length+l.length) c) from h1.cell 0,show w.cell? ⟨bp,1,none⟩=some (.int .i64 (pre.length:Int)) from h1.cell 1];show pre.length+l.length - ((pre.length:Int)).toNat+1=_;omega
theorem QS.me0{w:World}{bp ba wy:Nat}{l:List Tk}(h:QS w bp l ba wy)(hw:wy≠0):meQ w bp = 0:=by
 obtain ⟨b,o,c,pre,_,h1,_⟩:=h;unfold meQ;rw [show w.cell? ⟨bp,3,none⟩=some (.int .i64 (wy:Int)) from h1.cell 3];split
 ·rename_i he;simp at he;omega
 ·rfl
structure CaL(w:World)(lo bp d a:Nat)(s:Bs)(q l:List Tk)(xs:List Tr)(g c:Nat)(W:World):Prop where
 rd:∃ x r1,Rd ag (.aI 0) (d+1) q (.ok [x] r1)/\∀ o,Rd ag (.args xs) (d+1) l o->Rd ag (.args [x]) (d+1) r1 o
 qs:QS W bp l 0 0
 gt:Gt l
 lt:l.length < q.length
 arr:AY 26 lo W g c xs
 few:xs.length+l.length<=4000
def CaI(w:World)(lo bp d a:Nat)(s:Bs)(q:List Tk)(n g c:Nat)(W:World):Prop:=
 (∃ l xs,n=xs.length/\CaL w lo bp d a s q l xs g c W)\/(∃ ba er t r,er≠0/\Ev (fun f=>ArK ag f d a s q) (.bad ba er)/\QS W bp (t :: r) ba er)
theorem un_call{n:Nat}(H:ExQ n)(w:World)(bp d:Nat)(t u:Tk)(q:List Tk)(hn:q.length<=n)(hd:d<=60)(hp:QS w bp (t :: u :: q) 0 0)(hg:Gt (t :: u :: q))(hk:t.k = 1)(hu:ak [40] u=true) :
  Calls Tryz.prog 118 #[.pointer (some ⟨bp,0,none⟩),.int .i64 (d:Int)] w (AU w bp (t :: u :: q) (Rd ag (.aI 5) d (t :: u :: q))):=by
 obtain ⟨i0,hi,hz⟩:=Option.map_eq_some_iff.1 infoNd;have hz0:=congrArg (·.1) hz;have hz1:=congrArg (·.2.1) hz;have hz2:=congrArg (·.2.2) hz;have HI:=Hi hi;have HZ0:=Hi hz0;have HZ1:=Hi hz1;have HZ2:=Hi hz2;clear hi hz hz0 hz1 hz2;have hR:∀ o,Ev (fun f=>ArK ag f d t.at_ t.s q) o->Rd ag (.aI 5) d (t :: u :: q) o:=fun o h=>q6e hd hk hu h
 have h126:ak [126] t=false:=q0s V0 _;have h45:ak [45] t=false:=q0s V0 _;have h40:ak [40] t=false:=q0s V0 _;have hgr:=hg.tail V0;have hgq:=hgr.tail (q1o hu);have hneq:q≠[]:=by obtain ⟨t3,r3,h3⟩:=hgq.cons;rw [h3];simp
 have hki:((t.k:Int)==2)=false:=V4;obtain ⟨r,hr⟩:∃ r,u :: q=r:=⟨_,rfl⟩;have hne:r≠[]:=by rw [<-hr];simp
 rw [hr] at hp hR ⊢;have HR:=Hi hR;have H126:=Hi h126;have H45:=Hi h45;have H40:=Hi h40;have HK1:=Hi hk;have HUU:=Hi hu;have HGQ:=Hi hgq;have HNE:=Hi hne;have HRR:=Hi hr;have HNQ:=Hi hneq;obtain ⟨w0,hw0,hb0,hB⟩:=q04 w;have hlt:=hp.lt;have Bb:=Hi (hp.below hb0);have Az:=Hi (q0n w0 bp 0 0 150 false t r (hp.below hb0) (.inl rfl));have HT:=Hi (tok w0 bp 0 0 t r (hp.below hb0));have hdi:¬ (60:Int) < (d:Int):=V0;have HB0:=Hi hb0;have HB:=Hi hB;have HW:=Hi hw0;have hbl:=hB.lt;clear hb0 hB hp hw0 hR hk h126 h45 h40 hu hgr hg hgq hneq hne hr;go_enter Tryz.func118,Tryz.ntmps118;go_wp2_with fail
 rw [HW.out];refine Az.out.mono ?_;rintro e w' ⟨rfl,rfl⟩;go_wp2_with fail
 refine HT.out.mono ?_;rintro e w1 ⟨rfl,hb1⟩;obtain ⟨w2,hw2,-,hbt⟩:=aS w1 #[.int .i64 (t.k:Int),.string ⟨t.s.toArray⟩,.int .i64 (t.at_:Int)] 63;have hb2:Below w0.heap.size w0 w2:=Vg;have h01:=hb1.size;have h12:=hbt.lt;have Ar:=Hi (Bb.out.below hb2);have HW2:=Hi hw2;have Ai:=Hi ((q01 (bp:=bp) HB0.out).trans (q01 hb2));have HBT:=Hi hbt;have Ah:=Hi (HB.out.below hb2 HB.out.lt);clear hb1 hb2 hw2 hbt HT Az Bb;have HG1:=Hi (q03 w2 bp 0 0 t r [126] Ar.out (.inr H126.out));go_wp2_with fail
 rw [HW2.out];refine HG1.out.mono ?_;rintro e wa ⟨rfl,aL⟩;have HG2:=Hi (q03 wa bp 0 0 t r [45] (Ar.out.below aL) (.inr H45.out));have AA:=Hi aL;clear aL;go_wp2_with fail
 refine HG2.out.mono ?_;rintro e w3 ⟨rfl,hb3⟩;have aG:=AA.out.trans (hb3.mono AA.out.size);have h23:=aG.size;have bF:=HBT.out.below aG h12;obtain ⟨f0,f1,f2,y0,y1,y2⟩:=Aa.c3 bF;have h13:=bF.lt;have HP3:=Hi (Ar.out.below aG);have Aw:=Hi (Ai.out.trans (q01 aG));have AV:=Hi bF;have Aq:=Hi (Ah.out.below aG Ah.out.lt);clear hb3 aG bF HG1 HG2 AA Ar Ai HBT Ah HW2;go_wp2_with fail
 refine (q03 w3 bp 0 0 t r [40] HP3.out (.inr H40.out)).mono ?_;rintro e w4 ⟨rfl,hb4⟩;have h34:=hb4.size;have HP4:=Hi (HP3.out.below hb4);have AO:=Hi (Aw.out.trans (q01 hb4));have Bd:=Hi (AV.out.below hb4 V0);have Ba:=Hi (Aq.out.below hb4 Aq.out.lt);clear hb4 HP3 Aw AV Aq;clear f0 f1 f2 y0 y1 y2;go_wp2_with fail
 refine (name_yes w4 bp t r HP4.out HK1.out HNE.out).mono ?_;rintro e w5 ⟨rfl,hp5,bn⟩;have h45':=bn.size;rw [<-HRR.out] at hp5;have HP5:=Hi hp5;have AR:=Hi (AO.out.trans bn);have HBT5:=Hi (Bd.out.upd bn V0);have AX:=Hi (Ba.out.upd bn V0);clear hp5 bn HP4 AO Bd Ba;go_wp2_with fail
 refine (q0p w5 bp u q [40] HP5.out HUU.out HNQ.out).mono ?_;rintro e w6 ⟨rfl,hp6,bX⟩;have h56:=bX.size;have HE:=Hi (H w6 bp (d+1) q hn hp6 HGQ.out);have HU6:=Hi (AR.out.trans bX);have HBT6:=Hi (HBT5.out.upd bX V0);have HX6:=Hi (AX.out.upd bX V0);clear hp6 bX HP5 AR HBT5 AX;go_wp2_with fail
 refine HE.out.mono ?_;rintro e w7 ⟨k,a,s,m,A,la,cA,B,lb,cB,rfl,hU,hO⟩;obtain ⟨w8,hw8,hb8,-⟩:=aS w7 #[.int .i64 (k:Int),.string ⟨s.toArray⟩,.int .u32 (m:Int),.int .i64 (a:Int),.slice A la cA,.slice B lb cB] 26;obtain ⟨w9,hw9,hb9,-⟩:=aS w8 #[.int .i64 (k:Int),.string ⟨s.toArray⟩,.int .u32 (m:Int),.int .i64 (a:Int),.slice A la cA,.slice B lb cB] 26;have aV:w8.heap.size=w7.heap.size+1:=by rw [<-hw8];simp
 have h67:=hU.size;have h89:=hb9.size;have hb79:Below w7.heap.size w7 w9:=hb8.trans (hb9.mono hb8.size);have HX9:=Hi ((HX6.out.upd hU (show ¬ w.heap.size=bp from V0)).below hb79 V0);have HBT9:=Hi ((HBT6.out.upd hU (show ¬ w1.heap.size=bp from V0)).below hb79 V0);have HU9:=Hi ((HU6.out.trans hU).trans (q01 hb79));have HJ:Hid (CaI w (w1.heap.size+1) bp d t.at_ t.s q 1 w8.heap.size 1 w9):=Hi (by
  rcases hO with ⟨x,r',hT,hR,hP,hG,hr⟩ | ⟨ba,er,v,r',he,hR,hP⟩
  ·refine .inl ⟨r',[x],rfl,⟨⟨x,r',hR,fun o h=>h⟩,hP.below hb79,hG,hr,?_,?_⟩⟩
   ·have hT8:Ak (fun b=>w1.heap.size+1<=b) w8 x (bG k a s m A la cA B lb cB):=(tup hT (show w1.heap.size+1<=w6.heap.size from V0)).upd (Upd.of_below hb8 fun _=>False) (fun _ _ h=>h);have hA:=AY.first (e:=26) hT8 V0
    rwa [show w8.alloc (.cells (bG k a s m A la cA B lb cB).toArray 26)=w9 from hw9] at hA
   ·have:=HGQ.out.few;simp;omega
  ·exact .inr ⟨ba,er,v,r',he,q8w hR,hP.below hb79⟩)
 have HW8:=Hi hw8;have HW9:=Hi hw9;rw [aV] at HJ;clear hU hO hb8 hw8 hb9 hw9 hb79 HE HU6 HBT6 HX6;go_wp2_with fail
 rw [HW8.out,HW9.out]
 go_loopw [12] (fun vl wr=>∃ n' g c,vl = .slice (some ⟨g,0,none⟩) n' c/\Hid (CaI w (w1.heap.size+1) bp d t.at_ t.s q n' g c wr)/\Hid (UB bp w wr)/\Hid (Aa wr w.heap.size 26 zNd)/\Hid (Aa wr w1.heap.size 63 #[.int .i64 (t.k:Int),.string ⟨t.s.toArray⟩,.int .i64 (t.at_:Int)])/\w9.heap.size<=wr.heap.size) (fun _ wr=>meQ wr bp)
 case atStart=>exact ⟨1,_,1,rfl,HJ,HU9,HX9,HBT9,Nat.le_refl _⟩
 case round=>
  clear HJ HU9 HX9 HBT9;obtain ⟨n',g,c,rfl,HJ,HUr,HXr,HBTr,h9r⟩:=hrel;rcases HJ.out with ⟨l,xs,rfl,hL⟩ | ⟨ba,er,v,r',he,hR9,hP9⟩
  ·have HH:=Hi hL;clear hL HJ;obtain ⟨v,r',rfl⟩:=HH.out.gt.cons;by_cases hv:ak [44] v=true
   ·have hgr:=HH.out.gt.tail (q1o hv);have hner:r'≠[]:=VO;have hln:r'.length<=n:=by have:=HH.out.lt;simp at this;omega
    have HGO:=Hi (q0p wr bp v r' [44] HH.out.qs hv hner);have HGR:=Hi hgr;have HV:=Hi hv;clear hgr hner hv;go_wp2_with fail
    refine HGO.out.mono ?_;rintro e wa ⟨rfl,hpa,hua⟩;have HEa:=Hi (H wa bp (d+1) r' hln hpa HGR.out);have HUa:=Hi hua;have hra:=hua.size;clear hpa hua;go_wp2_with fail
    refine HEa.out.mono ?_;rintro e wb ⟨k',a',s',m',A',la',bu,B',lb',bA,rfl,hU,hO⟩;obtain ⟨wc,hwc,hbc,-⟩:=aS wb #[.int .i64 (k':Int),.string ⟨s'.toArray⟩,.int .u32 (m':Int),.int .i64 (a':Int),.slice A' la' bu,.slice B' lb' bA] 26;have hsc:wc.heap.size=wb.heap.size+1:=by rw [<-hwc];simp
    have hab:=hU.size;have hurc:UB bp wr wc:=(HUa.out.trans hU).trans (q01 hbc);obtain ⟨css,how,hts⟩:=HH.out.arr;have hgg:=q0Q how;have HOA:=Hi (World.ownsRow.alloc (q0O how hurc V0) (.cells #[.int .i64 (k':Int),.string ⟨s'.toArray⟩,.int .u32 (m':Int),.int .i64 (a':Int),.slice A' la' bu,.slice B' lb' bA] 26));have HLI:=Hi (q06 wc 26 (bG k' a' s' m' A' la' bu B' lb' bA));have HBS:=Hi (show w1.heap.size+1<=(wc.alloc (.cells #[.int .i64 (k':Int),.string ⟨s'.toArray⟩,.int .u32 (m':Int),.int .i64 (a':Int),.slice A' la' bu,.slice B' lb' bA] 26)).heap.size from V4);have hfew:=HH.out.few;simp only [List.length_cons] at hfew;have HOW:=Hi how;have HTS:=Hi hts;have HURC:=Hi hurc;have HO:=Hi hO;have HBC:=Hi hbc;have HWC:=Hi hwc;have HSC:=Hi hsc;have HXc:=Hi (HXr.out.upd hurc (show ¬ w.heap.size=bp from V0));have HBTc:=Hi (HBTr.out.upd hurc (show ¬ w1.heap.size=bp from V0));have HUc:=Hi (HUr.out.trans hurc);have hxl:=(HXr.out.upd hurc (show ¬ w.heap.size=bp from V0)).lt;have htl:=(HBTr.out.upd hurc (show ¬ w1.heap.size=bp from V0)).lt;clear how hts hurc hU hO hbc hwc;rw [hsc] at HLI;go_wp2_with (at_builtin;rw [HWC.out];refine q0d rfl _ _ 23 rfl (w1.heap.size+1) 26 i0 (.agg zNd) 6 88 Tryz.underlying23 HI.out HZ0.out HZ1.out HZ2.out rfl V2 _ xs.length _ rfl HOA.out ⟨wb.heap.size+1,0,none⟩ 1 1 (bG k' a' s' m' A' la' bu B' lb' bA) rfl rfl HLI.out VN V6 V0 HBS.out V2 ?_;intro g8 c8 w8' hE;have HE8:=Hi hE;clear hE)
    have bU:Upd (fun b=>b=g) wc w8':=((Upd.refl (fun b=>b=g) wc).alloc _).grown HE8.out.grown fun k hk _=>Vx
    have hU8:UB bp w w8':=(HUc.out.alloc _).grown HE8.out.grown fun k hk hs=>by
     exact V1z
    have hc8:=bU.size;have hJ8:CaI w (w1.heap.size+1) bp d t.at_ t.s q (xs.length+1) g8 c8 w8':=by
     obtain ⟨x,r1,hx,hrd⟩:=HH.out.rd;rcases HO.out with ⟨y,r5,hT,hR,hP,hG,hr⟩ | ⟨ba,er,t5,r5,he,hR,hP⟩
     ·have hTc:Ak (fun b=>wr.heap.size<=b) wc y (bG k' a' s' m' A' la' bu B' lb' bA):=(tup hT (show wr.heap.size<=wa.heap.size from V0)).upd (Upd.of_below HBC.out fun _=>False) (fun _ _ h=>h);have hst:=q1D HOW.out HTS.out V0 HURC.out hTc HE8.out;refine .inl ⟨r5,xs ++ [y],V3,⟨⟨x,r1,hx,fun o h=>hrd o (q8u HV.out hR h)⟩,(hP.below HBC.out).far bU fun b hb=>V0,hG,V1N,hst.1,V4⟩⟩
     ·exact .inr ⟨ba,er,t5,r5,he,q6m hx (hrd _ (q38 HV.out hR)),(hP.below HBC.out).far bU fun b hb=>V0⟩
    have HX8:=Hi (HXc.out.upd bU (show ¬ w.heap.size=g from V0));have HBT8:=Hi (HBTc.out.upd bU (show ¬ w1.heap.size=g from V0));have HU8:=Hi hU8;have HJ8:=Hi hJ8;clear bU hU8 hJ8
    go_roundw
    case rel=>exact ⟨xs.length+1,g8,c8,rfl,HJ8,HU8,HX8,HBT8,V0⟩
    case measure=>
     rw [HH.out.qs.me];rcases HJ8.out with ⟨l2,xs2,_,hL2⟩ | ⟨ba,er,t5,r5,he,hR,hP⟩
     ·rw [hL2.qs.me];rcases HO.out with ⟨y,r5,hT,hR,hP,hG,hr⟩ | ⟨ba,er,t5,r5,he,hR,hP⟩
      ·have h1:=((hP.below HBC.out).far (X:=fun b=>b=g) (((Upd.refl (fun b=>b=g) wc).alloc _).grown HE8.out.grown fun k hk _=>Vx) fun b hb=>V0).me;have h2:=hL2.qs.me;simp only [List.length_cons];omega
      ·have h1:=((hP.below HBC.out).far (X:=fun b=>b=g) (((Upd.refl (fun b=>b=g) wc).alloc _).grown HE8.out.grown fun k hk _=>Vx) fun b hb=>V0).me0 he;have h2:=hL2.qs.me;omega
     ·rw [hP.me0 he];simp
   ·have hv':ak [44] v=false:=by simpa using hv
    have HGO:=Hi (q03 wr bp 0 0 v r' [44] HH.out.qs (.inr hv'));have HV:=Hi hv';clear hv hv';go_wp2_with fail
    refine HGO.out.mono ?_;rintro e wa ⟨rfl,aL⟩;have hra:=aL.size;have hqa:=HH.out.qs.below aL;have HUa:=Hi (HUr.out.trans (q01 aL));have HXa:=Hi (HXr.out.below aL HXr.out.lt);have HBTa:=Hi (HBTr.out.below aL HBTr.out.lt);have HAa:=Hi (HH.out.arr.upd (Upd.of_below aL fun _=>False) (fun _ h=>h.elim));have hfew:=HH.out.few;clear aL;by_cases hm:ak [41] v=true
    ·have hgr:=HH.out.gt.tail (q1o hm);have hner:r'≠[]:=VO;have HM:=Hi (must_yes wa bp v r' [41] hqa hm hner);have HGR:=Hi hgr;have HMV:=Hi hm;clear hgr hner hm hqa;go_wp2_with fail
     refine HM.out.mono ?_;rintro e w10 ⟨rfl,hp10,hu10⟩;have HP10:=Hi hp10;have HU10:=Hi (HUa.out.trans hu10);have HX10:=Hi (HXa.out.upd hu10 V0);have HA10:=Hi (HAa.out.upd hu10 fun b hb=>V0);have hbt:=HBTa.out.upd hu10 (show ¬ w1.heap.size=bp from V0);obtain ⟨f0,f1,f2,y0,y1,y2⟩:=Aa.c3 hbt;have hbl10:=hbt.lt;clear hp10 hu10 hbt;go_wp2_with fail
     refine (node w10 5 t.at_ t.s _ _ _).mono ?_;rintro e w11 ⟨rfl,hb11⟩;have hx:=HX10.out.below hb11 HX10.out.lt;obtain ⟨⟨e0,e1,e2,e3,e4,e5⟩,z0,z1,z2,z3,z4,z5⟩:=Aa.c6 hx;have H1:=Hi hx;have HB11:=Hi hb11;clear hx hb11 f0 f1 f2 y0 y1 y2;go_wp2_with fail
     refine bodyPost_ret (aH rfl rfl (Aa.az H1.out _ _ _ _ _ _) rfl) rfl ?_;have hN:=(HA10.out.upd (Upd.of_below HB11.out fun _=>False) (fun _ h=>h.elim)).node V0 5 t.at_ 0 t.s;obtain ⟨x,r1,hx,hrd⟩:=HH.out.rd;have hl9:=HH.out.lt;exact q5E (lo:=w1.heap.size+1) hlt V0 hN (HR.out _ (ar_ok hx (hrd _ (q1j HV.out)) HMV.out)) (HP10.out.below HB11.out) HGR.out (by rw [<-HRR.out];simp at hl9 ⊢;omega) (HU10.out.trans (q01 HB11.out))
    ·have hm':ak [41] v=false:=by simpa using hm
     have HM:=Hi (must_no wa bp v r' [41] hqa hm');have HMV:=Hi hm';clear hm hm' hqa;go_wp2_with fail
     refine HM.out.mono ?_;rintro e w10 ⟨rfl,hp10,hu10⟩;have HP10:=Hi hp10;have HU10:=Hi (HUa.out.trans hu10);have HX10:=Hi (HXa.out.upd hu10 V0);have hbt:=HBTa.out.upd hu10 (show ¬ w1.heap.size=bp from V0);obtain ⟨f0,f1,f2,y0,y1,y2⟩:=Aa.c3 hbt;have hbl10:=hbt.lt;clear hp10 hu10 hbt;go_wp2_with fail
     refine (node w10 5 t.at_ t.s _ _ _).mono ?_;rintro e w11 ⟨rfl,hb11⟩;have hx:=HX10.out.below hb11 HX10.out.lt;obtain ⟨⟨e0,e1,e2,e3,e4,e5⟩,z0,z1,z2,z3,z4,z5⟩:=Aa.c6 hx;have H1:=Hi hx;have HB11:=Hi hb11;clear hx hb11 f0 f1 f2 y0 y1 y2;go_wp2_with fail
     refine bodyPost_ret (aH rfl rfl (Aa.az H1.out _ _ _ _ _ _) rfl) rfl ?_;obtain ⟨x,r1,hx,hrd⟩:=HH.out.rd;exact q1e 5 t.at_ 0 _ _ 0 0 t.s _ none hlt V2 (HR.out _ (q8v hx (hrd _ (q1j HV.out)) HMV.out)) (HP10.out.below HB11.out) (HU10.out.trans (q01 HB11.out))
  ·have HGO:=Hi (q03 wr bp ba er v r' [44] hP9 (.inl he));have HP9:=Hi hP9;have HR9:=Hi hR9;have HE9:=Hi he;clear HJ hP9 hR9 he;go_wp2_with fail
   refine HGO.out.mono ?_;rintro e wa ⟨rfl,aL⟩;have hra:=aL.size;have HM:=Hi (q2Z wa bp ba er v r' [41] (HP9.out.below aL) HE9.out);have HPa:=Hi (HP9.out.below aL);have HUa:=Hi (HUr.out.trans (q01 aL));have HXa:=Hi (HXr.out.below aL HXr.out.lt);have HBTa:=Hi (HBTr.out.below aL HBTr.out.lt);clear aL;go_wp2_with fail
   refine HM.out.mono ?_;rintro e w10 ⟨rfl,df⟩;have HP10:=Hi (HPa.out.below df);have HU10:=Hi (HUa.out.trans (q01 df));have HX10:=Hi (HXa.out.below df HXa.out.lt);have hbt:=HBTa.out.below df HBTa.out.lt;obtain ⟨f0,f1,f2,y0,y1,y2⟩:=Aa.c3 hbt;have hbl10:=hbt.lt;clear df hbt;go_wp2_with fail
   refine (node w10 5 t.at_ t.s _ _ _).mono ?_;rintro e w11 ⟨rfl,hb11⟩;have hx:=HX10.out.below hb11 HX10.out.lt;obtain ⟨⟨e0,e1,e2,e3,e4,e5⟩,z0,z1,z2,z3,z4,z5⟩:=Aa.c6 hx;have H1:=Hi hx;have HB11:=Hi hb11;clear hx hb11 f0 f1 f2 y0 y1 y2;go_wp2_with fail
   refine bodyPost_ret (aH rfl rfl (Aa.az H1.out _ _ _ _ _ _) rfl) rfl ?_;exact q1e 5 t.at_ 0 _ _ 0 0 t.s _ none hlt HE9.out (HR.out _ HR9.out) (HP10.out.below HB11.out) (HU10.out.trans (q01 HB11.out))
end
end Pq
end Go.Proofs.YtcgibpdjfgjldaaGreatDoor
