/- DERIVED. RqPp, RqPb. By an AI agent. -/
import Derived.Test.YtpoepignpdfleaaGreatDoorY01
import Derived.Test.YtpoepignpdfleaaGreatDoorY38
set_option maxRecDepth 100000
set_option maxHeartbeats 4000000
namespace Go.Proofs.YtpoepignpdfleaaGreatDoor.Pq
open Go Go.ChangeShapes Go.WideShapes Go.ChangeAt Go.RowKit Lx Args Pa
set_option linter.unusedVariables false
set_option linter.unusedSimpArgs false
section
attribute [local go_sem] fTk0 fTk1 fTk2
theorem un_deep1(w:World)(bp d:Nat)(t:Tk)(r:List Tk)(hd:60 < d)(hp:QS w bp (t :: r) 0 0)(hg:Gt (t :: r))(hk:t.k = 2) :
  Calls Tryz.prog 82 #[.pointer (some ⟨bp,0,none⟩),.int .i64 (d:Int)] w (OutQ w bp (t :: r) (Rd numV (.lev 5) d (t :: r))):=by
 have hR:Rd numV (.lev 5) d (t :: r) (.bad t.at_ 150):=r_deep5 hd
 have hC:=rnum t.s (hg.ok t (List.mem_cons_self ..)).2
 generalize (numV t.s).1=nv at hC
 generalize (numV t.s).2=ev at hC
 have HC:=Hi hC
 have hki:((t.k:Int)==2)=true:=by simp [hk]
 have HR:=Hi hR
 obtain ⟨w0,hw0,hb0,hB⟩:=zero_box w
 have hlt:=hp.lt
 have HP0:=Hi (hp.below hb0)
 have HBD:=Hi (bad_yes w0 bp 150 t r (hp.below hb0))
 have hdi:(60:Int) < (d:Int):=by omega
 have HB0:=Hi hb0;have HB:=Hi hB;have HW:=Hi hw0
 have hbl:=hB.lt
 clear hb0 hB hp hw0 hg hR hk hC
 go_enter Tryz.func82,Tryz.ntmps82
 go_wp2_with fail
 rw [HW.out]
 refine HBD.out.mono ?_
 rintro e w9 ⟨rfl,hp9,hu9⟩
 have HT:=Hi (tok w9 bp t.at_ 150 t r hp9)
 have HP9:=Hi hp9;have HU9:=Hi ((below_UB HB0.out).trans hu9);have HX9:=Hi (HB.out.upd hu9 (by omega))
 have h09:=hu9.size
 have hlt9:=hp9.lt
 clear hp9 hu9
 go_wp2_with fail
 refine HT.out.mono ?_
 rintro e w1 ⟨rfl,hb1⟩
 obtain ⟨w2,hw2⟩:∃ w2,w1.alloc (.cells #[.int .i64 (t.k:Int),.string ⟨t.s.toArray⟩,.int .i64 (t.at_:Int)] 76)=w2:=⟨_,rfl⟩
 have hb2:Below w9.heap.size w9 w2:=by rw [←hw2];exact hb1.alloc hb1.size _
 have hbt:Blk w2 w1.heap.size 76 #[.int .i64 (t.k:Int),.string ⟨t.s.toArray⟩,.int .i64 (t.at_:Int)]:=by rw [←hw2];exact Blk.new _ _ _
 have h91:=hb1.size
 have h12:=hbt.lt
 have HP2:=Hi (HP9.out.below hb2);have HW2:=Hi hw2;have HU2:=Hi (HU9.out.trans (below_UB hb2));have HBT:=Hi hbt;have HX2:=Hi (HX9.out.below hb2 HX9.out.lt)
 clear hb1 hb2 hw2 hbt HT HBD HP9 HU9 HX9
 have HG1:=Hi (goes_no w2 bp t.at_ 150 t r [126] HP2.out (.inl (by decide)))
 go_wp2_with fail
 rw [HW2.out]
 refine HG1.out.mono ?_
 rintro e wa ⟨rfl,hba⟩
 have HG2:=Hi (goes_no wa bp t.at_ 150 t r [45] (HP2.out.below hba) (.inl (by decide)))
 have HBA:=Hi hba
 clear hba
 go_wp2_with fail
 refine HG2.out.mono ?_
 rintro e w3 ⟨rfl,hb3⟩
 have hb23:=HBA.out.trans (hb3.mono HBA.out.size)
 have h23:=hb23.size
 have hbt3:=HBT.out.below hb23 h12
 obtain ⟨f0,f1,f2,y0,y1,y2⟩:=Blk.c3 hbt3
 have h13:=hbt3.lt
 have HP3:=Hi (HP2.out.below hb23);have HU3:=Hi (HU2.out.trans (below_UB hb23));have HBT3:=Hi hbt3;have HX3:=Hi (HX2.out.below hb23 HX2.out.lt)
 clear hb3 hb23 hbt3 HG1 HG2 HBA HP2 HU2 HBT HX2 HW2
 go_wp2_with fail
 refine (HC.out _).mono ?_
 rintro e w4 ⟨rfl,hb4⟩
 have h34:=hb4.size
 have HP4:=Hi (HP3.out.below hb4);have HU4:=Hi (HU3.out.trans (below_UB hb4));have HBT4:=Hi (HBT3.out.below hb4 h13);have HX4:=Hi (HX3.out.below hb4 HX3.out.lt)
 clear hb4 HP3 HU3 HBT3 HX3 f0 f1 f2 y0 y1 y2
 go_wp2_with fail
 refine (bad_no w4 bp t.at_ 150 100 _ t r HP4.out (.inr (by decide))).mono ?_
 rintro e w' ⟨rfl,rfl⟩
 go_wp2_with fail
 refine (bad_no w4 bp t.at_ 150 150 _ t r HP4.out (.inr (by decide))).mono ?_
 rintro e w' ⟨rfl,rfl⟩
 go_wp2_with fail
 refine (on_no w4 bp t.at_ 150 t r HP4.out (by decide)).mono ?_
 rintro e w6 ⟨rfl,hb6⟩
 have hbt:=HBT4.out.below hb6 (by omega);have hx:=HX4.out.below hb6 HX4.out.lt
 have HP6:=Hi (HP4.out.below hb6);have HU6:=Hi (HU4.out.trans (below_UB hb6))
 have h46:=hb6.size
 clear hb6
 obtain ⟨f0,f1,f2,y0,y1,y2⟩:=Blk.c3 hbt
 obtain ⟨⟨e0,e1,e2,e3,e4,e5⟩,z0,z1,z2,z3,z4,z5⟩:=Blk.c6 hx
 have H1:=Hi hx
 clear hbt hx
 go_wp2_with fail
 refine bodyPost_ret (resNd rfl rfl (Blk.put6 H1.out _ _ _ _ _ _) rfl) rfl ?_
 exact q_bad 0 t.at_ nv 0 0 0 0 [] none none hlt (by decide) HR.out HP6.out HU6.out
theorem un_deep0(w:World)(bp d:Nat)(t:Tk)(r:List Tk)(hd:60 < d)(hp:QS w bp (t :: r) 0 0)(hg:Gt (t :: r))(hk:t.k≠2) :
  Calls Tryz.prog 82 #[.pointer (some ⟨bp,0,none⟩),.int .i64 (d:Int)] w (OutQ w bp (t :: r) (Rd numV (.lev 5) d (t :: r))):=by
 have hR:Rd numV (.lev 5) d (t :: r) (.bad t.at_ 150):=r_deep5 hd
 have hki:((t.k:Int)==2)=false:=by simp;omega
 have HR:=Hi hR
 obtain ⟨w0,hw0,hb0,hB⟩:=zero_box w
 have hlt:=hp.lt
 have HP0:=Hi (hp.below hb0)
 have HBD:=Hi (bad_yes w0 bp 150 t r (hp.below hb0))
 have hdi:(60:Int) < (d:Int):=by omega
 have HB0:=Hi hb0;have HB:=Hi hB;have HW:=Hi hw0
 have hbl:=hB.lt
 clear hb0 hB hp hw0 hg hR hk
 go_enter Tryz.func82,Tryz.ntmps82
 go_wp2_with fail
 rw [HW.out]
 refine HBD.out.mono ?_
 rintro e w9 ⟨rfl,hp9,hu9⟩
 have HT:=Hi (tok w9 bp t.at_ 150 t r hp9)
 have HP9:=Hi hp9;have HU9:=Hi ((below_UB HB0.out).trans hu9);have HX9:=Hi (HB.out.upd hu9 (by omega))
 have h09:=hu9.size
 have hlt9:=hp9.lt
 clear hp9 hu9
 go_wp2_with fail
 refine HT.out.mono ?_
 rintro e w1 ⟨rfl,hb1⟩
 obtain ⟨w2,hw2⟩:∃ w2,w1.alloc (.cells #[.int .i64 (t.k:Int),.string ⟨t.s.toArray⟩,.int .i64 (t.at_:Int)] 76)=w2:=⟨_,rfl⟩
 have hb2:Below w9.heap.size w9 w2:=by rw [←hw2];exact hb1.alloc hb1.size _
 have hbt:Blk w2 w1.heap.size 76 #[.int .i64 (t.k:Int),.string ⟨t.s.toArray⟩,.int .i64 (t.at_:Int)]:=by rw [←hw2];exact Blk.new _ _ _
 have h91:=hb1.size
 have h12:=hbt.lt
 have HP2:=Hi (HP9.out.below hb2);have HW2:=Hi hw2;have HU2:=Hi (HU9.out.trans (below_UB hb2));have HBT:=Hi hbt;have HX2:=Hi (HX9.out.below hb2 HX9.out.lt)
 clear hb1 hb2 hw2 hbt HT HBD HP9 HU9 HX9
 have HG1:=Hi (goes_no w2 bp t.at_ 150 t r [126] HP2.out (.inl (by decide)))
 go_wp2_with fail
 rw [HW2.out]
 refine HG1.out.mono ?_
 rintro e wa ⟨rfl,hba⟩
 have HG2:=Hi (goes_no wa bp t.at_ 150 t r [45] (HP2.out.below hba) (.inl (by decide)))
 have HBA:=Hi hba
 clear hba
 go_wp2_with fail
 refine HG2.out.mono ?_
 rintro e w3 ⟨rfl,hb3⟩
 have hb23:=HBA.out.trans (hb3.mono HBA.out.size)
 have h23:=hb23.size
 have hbt3:=HBT.out.below hb23 h12
 obtain ⟨f0,f1,f2,y0,y1,y2⟩:=Blk.c3 hbt3
 have h13:=hbt3.lt
 have HP3:=Hi (HP2.out.below hb23);have HU3:=Hi (HU2.out.trans (below_UB hb23));have HBT3:=Hi hbt3;have HX3:=Hi (HX2.out.below hb23 HX2.out.lt)
 clear hb3 hb23 hbt3 HG1 HG2 HBA HP2 HU2 HBT HX2 HW2
 go_wp2_with fail
 refine (goes_no w3 bp t.at_ 150 t r [40] HP3.out (.inl (by decide))).mono ?_
 rintro e w4 ⟨rfl,hb4⟩
 have h34:=hb4.size
 have HP4:=Hi (HP3.out.below hb4);have HU4:=Hi (HU3.out.trans (below_UB hb4));have HBT4:=Hi (HBT3.out.below hb4 (by omega));have HX4:=Hi (HX3.out.below hb4 HX3.out.lt)
 clear hb4 HP3 HU3 HBT3 HX3
 clear f0 f1 f2 y0 y1 y2
 go_wp2_with fail
 refine (name_dead w4 bp t.at_ 150 t r HP4.out (by decide)).mono ?_
 rintro e w5 ⟨rfl,hb5⟩
 have h45:=hb5.size
 have HP5:=Hi (HP4.out.below hb5);have HU5:=Hi (HU4.out.trans (below_UB hb5));have HBT5:=Hi (HBT4.out.below hb5 (by omega));have HX5:=Hi (HX4.out.below hb5 HX4.out.lt)
 clear hb5 HP4 HU4 HBT4 HX4
 go_wp2_with fail
 refine (goes_no w5 bp t.at_ 150 t r [40] HP5.out (.inl (by decide))).mono ?_
 rintro e w6 ⟨rfl,hb6⟩
 have h56:=hb6.size
 have HP6:=Hi (HP5.out.below hb6);have HU6:=Hi (HU5.out.trans (below_UB hb6));have HBT6:=Hi (HBT5.out.below hb6 (by omega));have HX6:=Hi (HX5.out.below hb6 HX5.out.lt)
 clear hb6 HP5 HU5 HBT5 HX5
 obtain ⟨f0,f1,f2,y0,y1,y2⟩:=Blk.c3 HBT6.out
 have h16:=HBT6.out.lt
 go_wp2_with fail
 refine (node w6 1 t.at_ t.s none 0 0).mono ?_
 rintro e w8 ⟨rfl,hb8⟩
 clear f0 f1 f2 y0 y1 y2
 have hbt:=HBT6.out.below hb8 (by omega);have hx:=HX6.out.below hb8 HX6.out.lt
 have HP8:=Hi (HP6.out.below hb8);have HU8:=Hi (HU6.out.trans (below_UB hb8))
 have h58:=hb8.size
 clear hb8
 obtain ⟨⟨e0,e1,e2,e3,e4,e5⟩,z0,z1,z2,z3,z4,z5⟩:=Blk.c6 hx
 have H1:=Hi hx
 clear hbt hx
 go_wp2_with fail
 refine bodyPost_ret (resNd rfl rfl (Blk.put6 H1.out _ _ _ _ _ _) rfl) rfl ?_
 exact q_bad 1 t.at_ 0 0 0 0 0 t.s none none hlt (by decide) HR.out HP8.out HU8.out
theorem un_nothing(w:World)(bp d:Nat)(t:Tk)(r:List Tk)(hd:d≤60)(hp:QS w bp (t :: r) 0 0)(h126:isS [126] t=false)(h45:isS [45] t=false)(hk:t.k≠2)(h40:isS [40] t=false)(hk1:t.k≠1) :
  Calls Tryz.prog 82 #[.pointer (some ⟨bp,0,none⟩),.int .i64 (d:Int)] w (OutQ w bp (t :: r) (Rd numV (.lev 5) d (t :: r))):=by
 have hR:=r_nothing (num:=numV) (r:=r) hd (by simp [h126,h45]) hk h40 hk1
 have hki:((t.k:Int)==2)=false:=by simp;omega
 have HR:=Hi hR;have H126:=Hi h126;have H45:=Hi h45;have H40:=Hi h40;have HK1:=Hi hk1
 obtain ⟨w0,hw0,hb0,hB⟩:=zero_box w
 have hlt:=hp.lt
 have HP0:=Hi (hp.below hb0)
 have HBD:=Hi (bad_no w0 bp 0 0 150 false t r (hp.below hb0) (.inl rfl))
 have HT:=Hi (tok w0 bp 0 0 t r (hp.below hb0))
 have hdi:¬ (60:Int) < (d:Int):=by omega
 have HB0:=Hi hb0;have HB:=Hi hB;have HW:=Hi hw0
 have hbl:=hB.lt
 clear hb0 hB hp hw0 hR hk h126 h45 h40 hk1
 go_enter Tryz.func82,Tryz.ntmps82
 go_wp2_with fail
 rw [HW.out]
 refine HBD.out.mono ?_
 rintro e w' ⟨rfl,rfl⟩
 go_wp2_with fail
 refine HT.out.mono ?_
 rintro e w1 ⟨rfl,hb1⟩
 obtain ⟨w2,hw2⟩:∃ w2,w1.alloc (.cells #[.int .i64 (t.k:Int),.string ⟨t.s.toArray⟩,.int .i64 (t.at_:Int)] 76)=w2:=⟨_,rfl⟩
 have hb2:Below w0.heap.size w0 w2:=by rw [←hw2];exact hb1.alloc hb1.size _
 have hbt:Blk w2 w1.heap.size 76 #[.int .i64 (t.k:Int),.string ⟨t.s.toArray⟩,.int .i64 (t.at_:Int)]:=by rw [←hw2];exact Blk.new _ _ _
 have h01:=hb1.size
 have h12:=hbt.lt
 have HP2:=Hi (HP0.out.below hb2);have HW2:=Hi hw2;have HU2:=Hi ((below_UB (bp:=bp) HB0.out).trans (below_UB hb2));have HBT:=Hi hbt;have HX2:=Hi (HB.out.below hb2 HB.out.lt)
 clear hb1 hb2 hw2 hbt HT HBD HP0
 have HG1:=Hi (goes_no w2 bp 0 0 t r [126] HP2.out (.inr H126.out))
 go_wp2_with fail
 rw [HW2.out]
 refine HG1.out.mono ?_
 rintro e wa ⟨rfl,hba⟩
 have HG2:=Hi (goes_no wa bp 0 0 t r [45] (HP2.out.below hba) (.inr H45.out))
 have HBA:=Hi hba
 clear hba
 go_wp2_with fail
 refine HG2.out.mono ?_
 rintro e w3 ⟨rfl,hb3⟩
 have hb23:=HBA.out.trans (hb3.mono HBA.out.size)
 have h23:=hb23.size
 have hbt3:=HBT.out.below hb23 h12
 obtain ⟨f0,f1,f2,y0,y1,y2⟩:=Blk.c3 hbt3
 have h13:=hbt3.lt
 have HP3:=Hi (HP2.out.below hb23);have HU3:=Hi (HU2.out.trans (below_UB hb23));have HBT3:=Hi hbt3;have HX3:=Hi (HX2.out.below hb23 HX2.out.lt)
 clear hb3 hb23 hbt3 HG1 HG2 HBA HP2 HU2 HBT HX2 HW2
 go_wp2_with fail
 refine (goes_no w3 bp 0 0 t r [40] HP3.out (.inr H40.out)).mono ?_
 rintro e w4 ⟨rfl,hb4⟩
 have h34:=hb4.size
 have HP4:=Hi (HP3.out.below hb4);have HU4:=Hi (HU3.out.trans (below_UB hb4));have HBT4:=Hi (HBT3.out.below hb4 (by omega));have HX4:=Hi (HX3.out.below hb4 HX3.out.lt)
 clear hb4 HP3 HU3 HBT3 HX3
 clear f0 f1 f2 y0 y1 y2
 go_wp2_with fail
 refine (name_no w4 bp t r HP4.out HK1.out).mono ?_
 rintro e w5 ⟨rfl,hp5,hu5⟩
 have h45':=hu5.size
 have HP5:=Hi hp5;have HU5:=Hi (HU4.out.trans hu5);have HBT5:=Hi (HBT4.out.upd hu5 (by omega));have HX5:=Hi (HX4.out.upd hu5 (by omega))
 clear hp5 hu5
 go_wp2_with fail
 refine (goes_no w5 bp t.at_ 100 t r [40] HP5.out (.inl (by decide))).mono ?_
 rintro e w6 ⟨rfl,hb6⟩
 have h56:=hb6.size
 have HP6:=Hi (HP5.out.below hb6);have HU6:=Hi (HU5.out.trans (below_UB hb6));have HBT6:=Hi (HBT5.out.below hb6 (by omega));have HX6:=Hi (HX5.out.below hb6 HX5.out.lt)
 clear hb6 HP5 HU5 HBT5 HX5
 obtain ⟨f0,f1,f2,y0,y1,y2⟩:=Blk.c3 HBT6.out
 have h16:=HBT6.out.lt
 go_wp2_with fail
 refine (node w6 1 t.at_ t.s none 0 0).mono ?_
 rintro e w8 ⟨rfl,hb8⟩
 clear f0 f1 f2 y0 y1 y2
 have hbt:=HBT6.out.below hb8 (by omega);have hx:=HX6.out.below hb8 HX6.out.lt
 have HP8:=Hi (HP6.out.below hb8);have HU8:=Hi (HU6.out.trans (below_UB hb8))
 have h58:=hb8.size
 clear hb8
 obtain ⟨⟨e0,e1,e2,e3,e4,e5⟩,z0,z1,z2,z3,z4,z5⟩:=Blk.c6 hx
 have H1:=Hi hx
 clear hbt hx
 go_wp2_with fail
 refine bodyPost_ret (resNd rfl rfl (Blk.put6 H1.out _ _ _ _ _ _) rfl) rfl ?_
 exact q_bad 1 t.at_ 0 0 0 0 0 t.s none none hlt (by decide) HR.out HP8.out HU8.out
theorem un_name(w:World)(bp d:Nat)(t u:Tk)(q:List Tk)(hd:d≤60)(hp:QS w bp (t :: u :: q) 0 0)(hg:Gt (t :: u :: q))(hk:t.k = 1)(hu:isS [40] u=false) :
  Calls Tryz.prog 82 #[.pointer (some ⟨bp,0,none⟩),.int .i64 (d:Int)] w (OutQ w bp (t :: u :: q) (Rd numV (.lev 5) d (t :: u :: q))):=by
 have hR:=r_name (num:=numV) (r:=q) hd hk hu
 have h126:isS [126] t=false:=isS_low (by omega) _
 have h45:isS [45] t=false:=isS_low (by omega) _
 have h40:isS [40] t=false:=isS_low (by omega) _
 have hgr:=hg.tail (by omega)
 have hki:((t.k:Int)==2)=false:=by simp;omega
 obtain ⟨r,hr⟩:∃ r,u :: q=r:=⟨_,rfl⟩
 have hne:r≠[]:=by rw [←hr];simp
 rw [hr] at hp hR hgr ⊢
 have HR:=Hi hR;have H126:=Hi h126;have H45:=Hi h45;have H40:=Hi h40;have HK1:=Hi hk;have HUU:=Hi hu;have HGR:=Hi hgr;have HNE:=Hi hne;have HRR:=Hi hr
 obtain ⟨w0,hw0,hb0,hB⟩:=zero_box w
 have hlt:=hp.lt
 have HP0:=Hi (hp.below hb0)
 have HBD:=Hi (bad_no w0 bp 0 0 150 false t r (hp.below hb0) (.inl rfl))
 have HT:=Hi (tok w0 bp 0 0 t r (hp.below hb0))
 have hdi:¬ (60:Int) < (d:Int):=by omega
 have HB0:=Hi hb0;have HB:=Hi hB;have HW:=Hi hw0
 have hbl:=hB.lt
 clear hb0 hB hp hw0 hR hk h126 h45 h40 hu hgr hg hne hr
 go_enter Tryz.func82,Tryz.ntmps82
 go_wp2_with fail
 rw [HW.out]
 refine HBD.out.mono ?_
 rintro e w' ⟨rfl,rfl⟩
 go_wp2_with fail
 refine HT.out.mono ?_
 rintro e w1 ⟨rfl,hb1⟩
 obtain ⟨w2,hw2⟩:∃ w2,w1.alloc (.cells #[.int .i64 (t.k:Int),.string ⟨t.s.toArray⟩,.int .i64 (t.at_:Int)] 76)=w2:=⟨_,rfl⟩
 have hb2:Below w0.heap.size w0 w2:=by rw [←hw2];exact hb1.alloc hb1.size _
 have hbt:Blk w2 w1.heap.size 76 #[.int .i64 (t.k:Int),.string ⟨t.s.toArray⟩,.int .i64 (t.at_:Int)]:=by rw [←hw2];exact Blk.new _ _ _
 have h01:=hb1.size
 have h12:=hbt.lt
 have HP2:=Hi (HP0.out.below hb2);have HW2:=Hi hw2;have HU2:=Hi ((below_UB (bp:=bp) HB0.out).trans (below_UB hb2));have HBT:=Hi hbt;have HX2:=Hi (HB.out.below hb2 HB.out.lt)
 clear hb1 hb2 hw2 hbt HT HBD HP0
 have HG1:=Hi (goes_no w2 bp 0 0 t r [126] HP2.out (.inr H126.out))
 go_wp2_with fail
 rw [HW2.out]
 refine HG1.out.mono ?_
 rintro e wa ⟨rfl,hba⟩
 have HG2:=Hi (goes_no wa bp 0 0 t r [45] (HP2.out.below hba) (.inr H45.out))
 have HBA:=Hi hba
 clear hba
 go_wp2_with fail
 refine HG2.out.mono ?_
 rintro e w3 ⟨rfl,hb3⟩
 have hb23:=HBA.out.trans (hb3.mono HBA.out.size)
 have h23:=hb23.size
 have hbt3:=HBT.out.below hb23 h12
 obtain ⟨f0,f1,f2,y0,y1,y2⟩:=Blk.c3 hbt3
 have h13:=hbt3.lt
 have HP3:=Hi (HP2.out.below hb23);have HU3:=Hi (HU2.out.trans (below_UB hb23));have HBT3:=Hi hbt3;have HX3:=Hi (HX2.out.below hb23 HX2.out.lt)
 clear hb3 hb23 hbt3 HG1 HG2 HBA HP2 HU2 HBT HX2 HW2
 go_wp2_with fail
 refine (goes_no w3 bp 0 0 t r [40] HP3.out (.inr H40.out)).mono ?_
 rintro e w4 ⟨rfl,hb4⟩
 have h34:=hb4.size
 have HP4:=Hi (HP3.out.below hb4);have HU4:=Hi (HU3.out.trans (below_UB hb4));have HBT4:=Hi (HBT3.out.below hb4 (by omega));have HX4:=Hi (HX3.out.below hb4 HX3.out.lt)
 clear hb4 HP3 HU3 HBT3 HX3
 clear f0 f1 f2 y0 y1 y2
 go_wp2_with fail
 refine (name_yes w4 bp t r HP4.out HK1.out HNE.out).mono ?_
 rintro e w5 ⟨rfl,hp5,hu5⟩
 have h45':=hu5.size
 rw [←HRR.out] at hp5
 have HP5:=Hi hp5;have HU5:=Hi (HU4.out.trans hu5);have HBT5:=Hi (HBT4.out.upd hu5 (by omega));have HX5:=Hi (HX4.out.upd hu5 (by omega))
 clear hp5 hu5
 go_wp2_with fail
 refine (goes_no w5 bp 0 0 u q [40] HP5.out (.inr HUU.out)).mono ?_
 rintro e w6 ⟨rfl,hb6⟩
 have h56:=hb6.size
 have HP6:=Hi (HP5.out.below hb6);have HU6:=Hi (HU5.out.trans (below_UB hb6));have HBT6:=Hi (HBT5.out.below hb6 (by omega));have HX6:=Hi (HX5.out.below hb6 HX5.out.lt)
 clear hb6 HP5 HU5 HBT5 HX5
 obtain ⟨f0,f1,f2,y0,y1,y2⟩:=Blk.c3 HBT6.out
 have h16:=HBT6.out.lt
 go_wp2_with fail
 refine (node w6 1 t.at_ t.s none 0 0).mono ?_
 rintro e w8 ⟨rfl,hb8⟩
 clear f0 f1 f2 y0 y1 y2
 have hbt:=HBT6.out.below hb8 (by omega);have hx:=HX6.out.below hb8 HX6.out.lt
 have HP8:=Hi (HP6.out.below hb8);have HU8:=Hi (HU6.out.trans (below_UB hb8))
 have h58:=hb8.size
 clear hb8
 obtain ⟨⟨e0,e1,e2,e3,e4,e5⟩,z0,z1,z2,z3,z4,z5⟩:=Blk.c6 hx
 have H1:=Hi hx
 clear hbt hx
 go_wp2_with fail
 refine bodyPost_ret (resNd rfl rfl (Blk.put6 H1.out _ _ _ _ _ _) rfl) rfl ?_
 have hp8:=HP8.out
 rw [HRR.out] at hp8
 exact q_ok (lo:=w.heap.size+1) hlt (Nat.lt_succ_self _) (tIn_leaf _ 1 t.at_ 0 t.s) HR.out hp8 HGR.out (by simp) HU8.out
end
section
attribute [local go_sem] fTk0 fTk1 fTk2
theorem tIn_put2{N:Nat→Prop}{w:World}{x:Tr}{k a s n A la cA B lb cB}(h:TIn N w x (ndC k a s n A la cA B lb cB))(a':Nat):TIn N w (x.put a') (ndC k a' s n A la cA B lb cB):=by
 cases x with
 | mk k1 a1 s1 n1 ps l=>
  show TIn N w (.mk k1 a' s1 n1 ps l) _
  unfold TIn at h ⊢
  obtain ⟨A1,cA1,B1,cB1,h1,h2⟩:=h
  refine ⟨A1,cA1,B1,cB1,?_,h2⟩
  unfold ndC at h1 ⊢
  simp only [List.cons.injEq] at h1 ⊢
  exact ⟨h1.1,h1.2.1,h1.2.2.1,trivial,h1.2.2.2.2⟩
theorem un_par{n:Nat}(H:ExQ n)(w:World)(bp d:Nat)(t:Tk)(r:List Tk)(hn:r.length≤n)(hd:d≤60)(hp:QS w bp (t :: r) 0 0)(hg:Gt (t :: r))(h40:isS [40] t=true) :
  Calls Tryz.prog 82 #[.pointer (some ⟨bp,0,none⟩),.int .i64 (d:Int)] w (OutQ w bp (t :: r) (Rd numV (.lev 5) d (t :: r))):=by
 have hgr:=hg.tail (is_k h40)
 obtain ⟨t2,r2,hr2⟩:=hgr.cons
 have hne:r≠[]:=by rw [hr2];simp
 have hpk:=par_k h40
 have h126:isS [126] t=false:=by have:=hpk.1;simp at this;exact this.1
 have h45:isS [45] t=false:=by have:=hpk.1;simp at this;exact this.2
 have hki:((t.k:Int)==2)=false:=by have:=hpk.2;simp;omega
 have HGR:=Hi hgr;have HNE:=Hi hne;have HON:=Hi h40;have H126:=Hi h126;have H45:=Hi h45
 obtain ⟨w0,hw0,hb0,hB⟩:=zero_box w
 have hlt:=hp.lt
 have HP0:=Hi (hp.below hb0)
 have HBD:=Hi (bad_no w0 bp 0 0 150 false t r (hp.below hb0) (.inl rfl))
 have HT:=Hi (tok w0 bp 0 0 t r (hp.below hb0))
 have hdi:¬ (60:Int) < (d:Int):=by omega
 have HB0:=Hi hb0;have HB:=Hi hB;have HW:=Hi hw0
 have hbl:=hB.lt
 clear hb0 hB hp hw0 hg hgr hne h40 hpk h126 h45 hr2
 go_enter Tryz.func82,Tryz.ntmps82
 go_wp2_with fail
 rw [HW.out]
 refine HBD.out.mono ?_
 rintro e w' ⟨rfl,rfl⟩
 go_wp2_with fail
 refine HT.out.mono ?_
 rintro e w1 ⟨rfl,hb1⟩
 obtain ⟨w2,hw2⟩:∃ w2,w1.alloc (.cells #[.int .i64 (t.k:Int),.string ⟨t.s.toArray⟩,.int .i64 (t.at_:Int)] 76)=w2:=⟨_,rfl⟩
 have hb2:Below w0.heap.size w0 w2:=by rw [←hw2];exact hb1.alloc hb1.size _
 have hbt:Blk w2 w1.heap.size 76 #[.int .i64 (t.k:Int),.string ⟨t.s.toArray⟩,.int .i64 (t.at_:Int)]:=by rw [←hw2];exact Blk.new _ _ _
 have h01:=hb1.size
 have h12:=hbt.lt
 have HP2:=Hi (HP0.out.below hb2);have HW2:=Hi hw2;have HU2:=Hi ((below_UB (bp:=bp) HB0.out).trans (below_UB hb2));have HBT:=Hi hbt;have HX2:=Hi (HB.out.below hb2 HB.out.lt)
 clear hb1 hb2 hw2 hbt HT HBD HP0
 have HG1:=Hi (goes_no w2 bp 0 0 t r [126] HP2.out (.inr H126.out))
 go_wp2_with fail
 rw [HW2.out]
 refine HG1.out.mono ?_
 rintro e wa ⟨rfl,hba⟩
 have HG2:=Hi (goes_no wa bp 0 0 t r [45] (HP2.out.below hba) (.inr H45.out))
 have HBA:=Hi hba
 clear hba
 go_wp2_with fail
 refine HG2.out.mono ?_
 rintro e w3 ⟨rfl,hb3⟩
 have hb23:=HBA.out.trans (hb3.mono HBA.out.size)
 have h23:=hb23.size
 have hbt3:=HBT.out.below hb23 h12
 obtain ⟨f0,f1,f2,y0,y1,y2⟩:=Blk.c3 hbt3
 have h13:=hbt3.lt
 have HP3:=Hi (HP2.out.below hb23);have HU3:=Hi (HU2.out.trans (below_UB hb23));have HBT3:=Hi hbt3;have HX3:=Hi (HX2.out.below hb23 HX2.out.lt)
 clear hb3 hb23 hbt3 HG1 HG2 HBA HP2 HU2 HBT HX2 HW2
 go_wp2_with fail
 refine (goes_yes w3 bp t r [40] HP3.out HON.out HNE.out).mono ?_
 rintro e w4 ⟨rfl,hp4,hu4⟩
 have HE:=Hi (H w4 bp (d+1) r hn hp4 HGR.out)
 have HU4:=Hi (HU3.out.trans hu4);have HBT4:=Hi (HBT3.out.upd hu4 (by omega));have HX4:=Hi (HX3.out.upd hu4 (by omega))
 have h34:=hu4.size
 clear hp4 hu4 HP3 HU3 HBT3 HX3 f0 f1 f2 y0 y1 y2
 go_wp2_with fail
 refine HE.out.mono ?_
 rintro e w5 ⟨k,a,s,m,A,la,cA,B,lb,cB,rfl,hU,hO⟩
 obtain ⟨w6,hw6⟩:∃ w6,w5.alloc (.cells #[.int .i64 (k:Int),.string ⟨s.toArray⟩,.int .u32 (m:Int),.int .i64 (a:Int),.slice A la cA,.slice B lb cB] 26)=w6:=⟨_,rfl⟩
 have hb6:Below w5.heap.size w5 w6:=by rw [←hw6];exact (Below.refl _ _).alloc (Nat.le_refl _) _
 have hbn:Blk w6 w5.heap.size 26 #[.int .i64 (k:Int),.string ⟨s.toArray⟩,.int .u32 (m:Int),.int .i64 (a:Int),.slice A la cA,.slice B lb cB]:=by rw [←hw6];exact Blk.new _ _ _
 have h45':=hU.size
 have h56:=hbn.lt
 have hlt5:bp < w5.heap.size:=by omega
 have HX6:=Hi ((HX4.out.upd hU (show ¬ w.heap.size=bp by omega)).below hb6 (by omega));have HBT6:=Hi ((HBT4.out.upd hU (show ¬ w1.heap.size=bp by omega)).below hb6 (by omega))
 have HU6:=Hi ((HU4.out.trans hU).trans (below_UB hb6));have HB6:=Hi hb6;have HW6:=Hi hw6;have HBN:=Hi hbn;have HO:=Hi hO
 clear hU hO hb6 hw6 hbn HE HU4 HBT4 HX4
 rcases HO.out with ⟨x,r',hT,hR,hP,hG,hr⟩ | ⟨ba,er,u,r',he,hR,hP⟩
 ·obtain ⟨u,r5,rfl⟩:=hG.cons
  have HT6:=Hi ((hT.mono (N':=fun b=>w.heap.size+1≤b∧b≠w5.heap.size) fun b hb hs=>⟨by omega,by omega⟩).upd (Upd.of_below HB6.out fun _=>False) (fun _ _ h=>h))
  have HR5:=Hi hR;have HG5:=Hi hG;have HP6:=Hi (hP.below HB6.out)
  clear hT hR hP hG HO
  by_cases hv:isS [41] u=true
  ·have hne5:r5≠[]:=by
    obtain ⟨t6,r6,hr6⟩:=(HG5.out.tail (is_k hv)).cons
    rw [hr6];simp
   have HV:=Hi (must_yes w6 bp u r5 [41] HP6.out hv hne5)
   have HVV:=Hi hv
   clear hne5 hv
   go_wp2_with fail
   rw [HW6.out]
   refine HV.out.mono ?_
   rintro e w7 ⟨rfl,hp7,hu7⟩
   have HP7:=Hi hp7;have HU67:=Hi hu7
   clear hp7 hu7 HV
   have hX:=HX6.out.upd HU67.out (show ¬ w.heap.size=bp by omega)
   have hY:=HBN.out.upd HU67.out (show ¬ w5.heap.size=bp by omega)
   have hZ:=HBT6.out.upd HU67.out (show ¬ w1.heap.size=bp by omega)
   obtain ⟨⟨e0,e1,e2,e3,e4,e5⟩,z0,z1,z2,z3,z4,z5⟩:=Blk.c6 hX
   obtain ⟨⟨g0,g1,g2,g3,g4,g5⟩,x0,x1,x2,x3,x4,x5⟩:=Blk.c6 hY
   obtain ⟨f0,f1,f2,y0,y1,y2⟩:=Blk.c3 hZ
   have hxy:w5.heap.size≠w.heap.size:=by omega
   have h67:=HU67.out.size
   have HX:=Hi hX
   clear hX hY hZ
   go_wp2_with fail
   have hs7:Upd (fun b=>b=w5.heap.size) w7 (w7.setCell ⟨w5.heap.size,3,none⟩ (.int .i64 (t.at_:Int))):=(Upd.refl (fun b=>b=w5.heap.size) w7).setCell (fun _=>rfl) _
   have hU8:UB bp w (w7.setCell ⟨w5.heap.size,3,none⟩ (.int .i64 (t.at_:Int))):=(HU6.out.trans HU67.out).setCell (fun h=>absurd h (by show ¬ w5.heap.size < w.heap.size;omega)) _
   refine bodyPost_ret (resNd rfl rfl (Blk.put6 (HX.out.far (Ne.symm hxy) _) _ _ _ _ _ _) rfl) rfl ?_
   have hT7:=tIn_put2 (HT6.out.upd HU67.out fun b hb e=>by omega) t.at_
   exact q_ok (lo:=w.heap.size+1) hlt (Nat.lt_succ_self _) ((hT7.upd hs7 fun b hb e=>hb.2 e).mono fun b hb _=>hb.1) (r_par hd HON.out HR5.out HVV.out) (HP7.out.far hs7 fun b hb=>by omega) (HG5.out.tail (is_k HVV.out)) (by simp at hr ⊢;omega) hU8
  ·have hv':isS [41] u=false:=by simpa using hv
   have HV:=Hi (must_no w6 bp u r5 [41] HP6.out hv')
   have HVV:=Hi hv'
   clear hv hv'
   go_wp2_with fail
   rw [HW6.out]
   refine HV.out.mono ?_
   rintro e w7 ⟨rfl,hp7,hu7⟩
   have HP7:=Hi hp7;have HU67:=Hi hu7
   clear hp7 hu7 HV
   have hX:=HX6.out.upd HU67.out (show ¬ w.heap.size=bp by omega)
   have hY:=HBN.out.upd HU67.out (show ¬ w5.heap.size=bp by omega)
   have hZ:=HBT6.out.upd HU67.out (show ¬ w1.heap.size=bp by omega)
   obtain ⟨⟨e0,e1,e2,e3,e4,e5⟩,z0,z1,z2,z3,z4,z5⟩:=Blk.c6 hX
   obtain ⟨⟨g0,g1,g2,g3,g4,g5⟩,x0,x1,x2,x3,x4,x5⟩:=Blk.c6 hY
   obtain ⟨f0,f1,f2,y0,y1,y2⟩:=Blk.c3 hZ
   have hxy:w5.heap.size≠w.heap.size:=by omega
   have h67:=HU67.out.size
   have HX:=Hi hX
   clear hX hY hZ
   go_wp2_with fail
   have hs7:Upd (fun b=>b=w5.heap.size) w7 (w7.setCell ⟨w5.heap.size,3,none⟩ (.int .i64 (t.at_:Int))):=(Upd.refl (fun b=>b=w5.heap.size) w7).setCell (fun _=>rfl) _
   have hU8:UB bp w (w7.setCell ⟨w5.heap.size,3,none⟩ (.int .i64 (t.at_:Int))):=(HU6.out.trans HU67.out).setCell (fun h=>absurd h (by show ¬ w5.heap.size < w.heap.size;omega)) _
   refine bodyPost_ret (resNd rfl rfl (Blk.put6 (HX.out.far (Ne.symm hxy) _) _ _ _ _ _ _) rfl) rfl ?_
   exact q_bad k t.at_ m la cA lb cB s A B hlt (by decide) (r_par_end hd HON.out HR5.out HVV.out) (HP7.out.far hs7 fun b hb=>by omega) hU8
 ·have HR5:=Hi hR;have HP6:=Hi (hP.below HB6.out);have HV:=Hi (must_dead w6 bp ba er u r' [41] (hP.below HB6.out) he)
  clear hR hP HO
  go_wp2_with fail
  rw [HW6.out]
  refine HV.out.mono ?_
  rintro e w7 ⟨rfl,hb7⟩
  have HP7:=Hi (HP6.out.below hb7);have HU67:=Hi (below_UB (bp:=bp) hb7)
  clear hb7 HV
  have hX:=HX6.out.upd HU67.out (show ¬ w.heap.size=bp by omega)
  have hY:=HBN.out.upd HU67.out (show ¬ w5.heap.size=bp by omega)
  have hZ:=HBT6.out.upd HU67.out (show ¬ w1.heap.size=bp by omega)
  obtain ⟨⟨e0,e1,e2,e3,e4,e5⟩,z0,z1,z2,z3,z4,z5⟩:=Blk.c6 hX
  obtain ⟨⟨g0,g1,g2,g3,g4,g5⟩,x0,x1,x2,x3,x4,x5⟩:=Blk.c6 hY
  obtain ⟨f0,f1,f2,y0,y1,y2⟩:=Blk.c3 hZ
  have hxy:w5.heap.size≠w.heap.size:=by omega
  have h67:=HU67.out.size
  have HX:=Hi hX
  clear hX hY hZ
  go_wp2_with fail
  have hs7:Upd (fun b=>b=w5.heap.size) w7 (w7.setCell ⟨w5.heap.size,3,none⟩ (.int .i64 (t.at_:Int))):=(Upd.refl (fun b=>b=w5.heap.size) w7).setCell (fun _=>rfl) _
  have hU8:UB bp w (w7.setCell ⟨w5.heap.size,3,none⟩ (.int .i64 (t.at_:Int))):=(HU6.out.trans HU67.out).setCell (fun h=>absurd h (by show ¬ w5.heap.size < w.heap.size;omega)) _
  refine bodyPost_ret (resNd rfl rfl (Blk.put6 (HX.out.far (Ne.symm hxy) _) _ _ _ _ _ _) rfl) rfl ?_
  exact q_bad k t.at_ m la cA lb cB s A B hlt he (r_par_bad hd HON.out HR5.out) (HP7.out.far hs7 fun b hb=>by omega) hU8
end
end Go.Proofs.YtpoepignpdfleaaGreatDoor.Pq
