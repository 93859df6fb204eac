/- DERIVED. RqEx, RqUn, RqPn. By an AI agent. -/
import Derived.Test.YtcgibpdjfgjldaaGreatDoorQ01
import Derived.Test.YtcgibpdjfgjldaaGreatDoorQ14
import Derived.Test.YtcgibpdjfgjldaaGreatDoorQ13
set_option maxRecDepth 100000
set_option maxHeartbeats 4000000
set_option linter.unusedVariables false
set_option linter.unusedSimpArgs false
namespace Go.Proofs.YtcgibpdjfgjldaaGreatDoor.Pq
open Go Go.ChangeShapes Go.WideShapes Go.ChangeAt Go.RowKit Lx Args Pa
section
attribute [local go_sem] fTk0 fTk1 fTk2
theorem zero_box(w:World):∃ w0,w.alloc (.cells zNd 26)=w0∧Below w.heap.size w w0∧Blk w0 w.heap.size 26 zNd:=
 ⟨_,rfl,(Below.refl _ _).alloc (Nat.le_refl _) _,Blk.new _ _ _⟩
theorem ex_dead(w:World)(bp ba wy d:Nat)(t:Tk)(r:List Tk)(hp:QS w bp (t :: r) ba wy)(hw:wy≠0) :
  Calls Tryz.prog 46 #[.pointer (some ⟨bp,0,none⟩),.int .i64 (d:Int)] w fun e w'=>e = .returned (.agg zNd)∧Below w.heap.size w w':=by
 obtain ⟨w0,hw0,hb0,hB⟩:=zero_box w;have hlt:=hp.lt;have HBD:=Hi fun b:Bool=>bad_no w0 bp ba wy 150 b t r (hp.below hb0) (.inr hw)
 have HL:=Hi (level_dead w0 bp ba wy d t r (hp.below hb0) hw);have HB0:=Hi hb0;have HB:=Hi hB;have HW:=Hi hw0;clear hb0 hB hp hw0 hw;go_enter Tryz.func46,Tryz.ntmps46;go_wp2_with fail
 rw [HW.out];refine (HBD.out _).mono ?_;rintro e w' ⟨rfl,rfl⟩;go_wp2_with fail
 refine HL.out.mono ?_;rintro e w1 ⟨rfl,hb1⟩;have h1:=HB.out.below hb1 HB.out.lt;obtain ⟨⟨e0,e1,e2,e3,e4,e5⟩,z0,z1,z2,z3,z4,z5⟩:=Blk.c6 h1;have H1:=Hi h1;have HB1:=Hi (HB0.out.trans (hb1.mono HB0.out.size));clear h1 hb1;go_wp2_with fail
 refine bodyPost_ret (resNd rfl rfl (Blk.put6 H1.out _ _ _ _ _ _) rfl) rfl ⟨rfl,?_⟩;exact (((((HB1.out.setCell (Nat.le_refl _) _).setCell (Nat.le_refl _) _).setCell (Nat.le_refl _) _).setCell (Nat.le_refl _) _).setCell (Nat.le_refl _) _).setCell (Nat.le_refl _) _
theorem ex_deep(w:World)(bp d:Nat)(t:Tk)(r:List Tk)(hp:QS w bp (t :: r) 0 0)(hd:60 < d) :
  Calls Tryz.prog 46 #[.pointer (some ⟨bp,0,none⟩),.int .i64 (d:Int)] w (OutQ w bp (t :: r) (Rd numV (.lev 0) d (t :: r))):=by
 obtain ⟨w0,hw0,hb0,hB⟩:=zero_box w;have hlt:=hp.lt;have hR:Rd numV (.lev 0) d (t :: r) (.bad t.at_ 150):=r_deep0 hd;have HBD:=Hi (bad_yes w0 bp 150 t r (hp.below hb0));have HB0:=Hi hb0;have HB:=Hi hB;have HW:=Hi hw0;have HR:=Hi hR;have hdi:(60:Int) < (d:Int):=by omega
 have hbl:=hB.lt;clear hb0 hB hp hw0 hR;go_enter Tryz.func46,Tryz.ntmps46;go_wp2_with fail
 rw [HW.out];refine HBD.out.mono ?_;rintro e w1 ⟨rfl,hp1,hu1⟩;have HL:=Hi (level_dead w1 bp t.at_ 150 d t r hp1 (by decide));have HX1:=Hi (HB.out.upd hu1 (by omega));have HU1:=Hi ((below_UB HB0.out).trans hu1);have HP1:=Hi hp1;clear hp1 hu1;go_wp2_with fail
 refine HL.out.mono ?_;rintro e w2 ⟨rfl,hb2⟩;have h1:=HX1.out.below hb2 HX1.out.lt;obtain ⟨⟨e0,e1,e2,e3,e4,e5⟩,z0,z1,z2,z3,z4,z5⟩:=Blk.c6 h1;have H1:=Hi h1;have HU2:=Hi (HU1.out.trans (below_UB hb2));have HP2:=Hi (HP1.out.below hb2);clear h1 hb2;go_wp2_with fail
 refine bodyPost_ret (resNd rfl rfl (Blk.put6 H1.out _ _ _ _ _ _) rfl) rfl ?_;exact q_bad 0 0 0 0 0 0 0 [] none none hlt (by decide) HR.out HP2.out HU2.out
theorem q_pass{w w0 w1:World}{bp:Nat}{l:List Tk}{R:Out→Prop}{k a n la cA lb cB:Nat}{s:Bs}{A B:Option Addr}(hlt:bp < w.heap.size)(hg:w.heap.size < w0.heap.size)(hU:UB bp w w1)
  (h:(∃ x r,TIn (fun b=>w0.heap.size≤b) w1 x (ndC k a s n A la cA B lb cB)∧R (.ok [x] r)∧QS w1 bp r 0 0∧Gt r∧r.length < l.length)∨(∃ ba er t r,er≠0∧R (.bad ba er)∧QS w1 bp (t :: r) ba er)) :
  OutQ w bp l R (.returned (.agg #[.int .i64 (k:Int),.string ⟨s.toArray⟩,.int .u32 (n:Int),.int .i64 (a:Int),.slice A la cA,.slice B lb cB])) (put6 w1 w.heap.size (.int .i64 (k:Int)) (.string ⟨s.toArray⟩) (.int .u32 (n:Int)) (.int .i64 (a:Int)) (.slice A la cA) (.slice B lb cB)):=by
 rcases h with ⟨x,r,hT,hR,hP,hG,hr⟩ | ⟨ba,er,t,r,he,hR,hP⟩
 ·exact q_ok hlt hg hT hR hP hG hr hU
 ·exact q_bad _ _ _ _ _ _ _ _ _ _ hlt he hR hP hU
theorem ex_at(w:World)(bp d:Nat)(t:Tk)(r:List Tk)(hp:QS w bp (t :: r) 0 0)(hd:d≤60)
  (HL:∀ w0,QS w0 bp (t :: r) 0 0→Calls Tryz.prog 88 #[.pointer (some ⟨bp,0,none⟩),.int .i64 0,.int .i64 (d:Int)] w0 (OutQ w0 bp (t :: r) (Rd numV (.lev 0) d (t :: r)))) :
  Calls Tryz.prog 46 #[.pointer (some ⟨bp,0,none⟩),.int .i64 (d:Int)] w (OutQ w bp (t :: r) (Rd numV (.lev 0) d (t :: r))):=by
 obtain ⟨w0,hw0,hb0,hB⟩:=zero_box w;have hlt:=hp.lt;have HBD:=Hi (bad_no w0 bp 0 0 150 false t r (hp.below hb0) (.inl rfl));have HLL:=Hi (HL w0 (hp.below hb0));have HB0:=Hi hb0;have HB:=Hi hB;have HW:=Hi hw0;have hdi:¬ (60:Int) < (d:Int):=by omega
 have hbl:=hB.lt;clear hb0 hB hp hw0 HL;go_enter Tryz.func46,Tryz.ntmps46;go_wp2_with fail
 rw [HW.out];refine HBD.out.mono ?_;rintro e w' ⟨rfl,rfl⟩;go_wp2_with fail
 refine HLL.out.mono ?_;rintro e w1 ⟨k,a,s,n,A,la,cA,B,lb,cB,rfl,hU,hO⟩;have h1:=HB.out.upd hU (by omega);obtain ⟨⟨e0,e1,e2,e3,e4,e5⟩,z0,z1,z2,z3,z4,z5⟩:=Blk.c6 h1;have H1:=Hi h1;have HU1:=Hi ((below_UB HB0.out).trans hU);have HO:=Hi hO;clear h1 hU hO;go_wp2_with fail
 refine bodyPost_ret (resNd rfl rfl (Blk.put6 H1.out _ _ _ _ _ _) rfl) rfl ?_;exact q_pass hlt HB.out.lt HU1.out HO.out
def UnC(n:Nat):Prop:=∀ (w:World) (bp d:Nat) (l:List Tk),l.length≤n→QS w bp l 0 0→Gt l →
 Calls Tryz.prog 118 #[.pointer (some ⟨bp,0,none⟩),.int .i64 (d:Int)] w (OutQ w bp l (Rd numV (.lev 5) d l))
def ExQ(n:Nat):Prop:=∀ (w:World) (bp d:Nat) (l:List Tk),l.length≤n→QS w bp l 0 0→Gt l →
 Calls Tryz.prog 46 #[.pointer (some ⟨bp,0,none⟩),.int .i64 (d:Int)] w (OutQ w bp l (Rd numV (.lev 0) d l))
end
section
attribute [local go_sem] fTk0 fTk1 fTk2
theorem un_not{n:Nat}(H:UnC n)(w:World)(bp d:Nat)(t:Tk)(r:List Tk)(hn:r.length≤n)(hd:d≤60)(hp:QS w bp (t :: r) 0 0)(hg:Gt (t :: r))(hs:isS [126] t=true) :
  Calls Tryz.prog 118 #[.pointer (some ⟨bp,0,none⟩),.int .i64 (d:Int)] w (OutQ w bp (t :: r) (Rd numV (.lev 5) d (t :: r))):=by
 have hgr:=hg.tail (is_k hs);obtain ⟨t2,r2,hr2⟩:=hgr.cons;have hne:r≠[]:=by rw [hr2];simp
 have hon:(isS [126] t || isS [45] t)=true:=by simp [hs]
 have HGR:=Hi hgr;have HNE:=Hi hne;have HON:=Hi hon;have HS:=Hi hs;obtain ⟨w0,hw0,hb0,hB⟩:=zero_box w;have hlt:=hp.lt;have HP0:=Hi (hp.below hb0);have HBD:=Hi (bad_no w0 bp 0 0 150 false t r (hp.below hb0) (.inl rfl));have HT:=Hi (tok w0 bp 0 0 t r (hp.below hb0));have hdi:¬ (60:Int) < (d:Int):=by omega
 have HB0:=Hi hb0;have HB:=Hi hB;have HW:=Hi hw0;have hbl:=hB.lt;clear hb0 hB hp hw0 hg hgr hne hon hs hr2;go_enter Tryz.func118,Tryz.ntmps118;go_wp2_with fail
 rw [HW.out];refine HBD.out.mono ?_;rintro e w' ⟨rfl,rfl⟩;go_wp2_with fail
 refine HT.out.mono ?_;rintro e w1 ⟨rfl,hb1⟩;obtain ⟨w2,hw2⟩:∃ w2,w1.alloc (.cells #[.int .i64 (t.k:Int),.string ⟨t.s.toArray⟩,.int .i64 (t.at_:Int)] 63)=w2:=⟨_,rfl⟩;have hb2:Below w0.heap.size w0 w2:=by rw [←hw2];exact hb1.alloc hb1.size _
 have hbt:Blk w2 w1.heap.size 63 #[.int .i64 (t.k:Int),.string ⟨t.s.toArray⟩,.int .i64 (t.at_:Int)]:=by rw [←hw2];exact Blk.new _ _ _
 have h01:=hb1.size;have h12:=hbt.lt;have HP2:=Hi (HP0.out.below hb2);have HW2:=Hi hw2;have HU2:=Hi ((below_UB (bp:=bp) HB0.out).trans (below_UB hb2));have HBT:=Hi hbt;have HX2:=Hi (HB.out.below hb2 HB.out.lt);clear hb1 hb2 hw2 hbt HT HBD HP0;have HG:=Hi (goes_yes w2 bp t r [126] HP2.out HS.out HNE.out);have HU2':=HU2;have HBT':=HBT;have HX2':=HX2;go_wp2_with fail
 rw [HW2.out];refine HG.out.mono ?_;rintro e w3 ⟨rfl,hp3,hu3⟩;have HE:=Hi (H w3 bp (d+1) r hn hp3 HGR.out);have HU3:=Hi (HU2'.out.trans hu3);have HBT3:=Hi (HBT'.out.upd hu3 (by omega));have HX3:=Hi (HX2'.out.upd hu3 (by omega));have h23:=hu3.size;clear hp3 hu3;go_wp2_with fail
 refine HE.out.mono ?_;rintro e w4 ⟨k,a,s,m,A,la,cA,B,lb,cB,rfl,hU,hO⟩;have hbt4:=HBT3.out.upd hU (show ¬ w1.heap.size=bp by omega);obtain ⟨f0,f1,f2,y0,y1,y2⟩:=Blk.c3 hbt4;have h14:=hbt4.lt;have h34:=hU.size;obtain ⟨w5,hw5⟩:∃ w5,w4.alloc (.cells #[.int .i64 (k:Int),.string ⟨s.toArray⟩,.int .u32 (m:Int),.int .i64 (a:Int),.slice A la cA,.slice B lb cB] 26)=w5:=⟨_,rfl⟩;have hb5:Below w4.heap.size w4 w5:=by rw [←hw5];exact (Below.refl _ _).alloc (Nat.le_refl _) _
 have h45:=hb5.size;have hs5:w5.heap.size=w4.heap.size+1:=by rw [←hw5];simp
 have HX5:=Hi ((HX3.out.upd hU (show ¬ w.heap.size=bp by omega)).below hb5 (by omega));have HU5:=Hi ((HU3.out.trans hU).trans (below_UB hb5));have HB5:=Hi hb5;have HW5:=Hi hw5;have HO:=Hi hO;clear hbt4 hU hO hb5 hw5 HE HU3 HBT3 HX3 HU2 HBT HX2 HP2 HW2 HG;go_wp2_with fail
 rw [HW5.out];obtain ⟨w6,hw6⟩:∃ w6,w5.alloc (.cells #[.int .i64 (k:Int),.string ⟨s.toArray⟩,.int .u32 (m:Int),.int .i64 (a:Int),.slice A la cA,.slice B lb cB] 26)=w6:=⟨_,rfl⟩;have hb6:Below w5.heap.size w5 w6:=by rw [←hw6];exact (Below.refl _ _).alloc (Nat.le_refl _) _
 rw [hw6];refine (node w6 2 t.at_ t.s _ 1 1).mono ?_;rintro e w7 ⟨rfl,hb7⟩;have hb57:Below w5.heap.size w5 w7:=hb6.trans (hb7.mono hb6.size);have h1:=HX5.out.below hb57 HX5.out.lt;obtain ⟨⟨e0,e1,e2,e3,e4,e5⟩,z0,z1,z2,z3,z4,z5⟩:=Blk.c6 h1;have H1:=Hi h1;have HB57:=Hi hb57;have HB67:=Hi hb7;have HW6:=Hi hw6;clear h1 hb57 hb6 hb7 hw6;go_wp2_with fail
 refine bodyPost_ret (resNd rfl rfl (Blk.put6 H1.out _ _ _ _ _ _) rfl) rfl ?_;have hU7:UB bp w w7:=HU5.out.trans (below_UB HB57.out);rcases HO.out with ⟨x,r',hT,hR,hP,hG,hr⟩ | ⟨ba,er,t',r',he,hR,hP⟩
 ·have hT5:TIn (fun b=>w.heap.size+1≤b) w5 x (ndC k a s m A la cA B lb cB):=(tup hT (show w.heap.size+1≤w3.heap.size by omega)).upd (Upd.of_below HB5.out fun _=>False) (fun _ _ h=>h);have hA:=ArrT.first (e:=26) hT5 (by omega);rw [show w5.alloc (.cells (ndC k a s m A la cA B lb cB).toArray 26)=w6 from HW6.out] at hA;have hN:=(hA.upd (Upd.of_below HB67.out fun _=>False) (fun _ h=>h.elim)).node (by simp) 2 t.at_ 0 t.s;rw [hs5] at hN;exact q_ok (lo:=w.heap.size+1) hlt (Nat.lt_succ_self _) hN (r_un hd HON.out hR) ((hP.below HB5.out).below HB57.out) hG (by simp;omega) hU7
 ·exact q_bad 2 t.at_ 0 1 1 0 0 t.s _ none hlt he (r_un_bad hd HON.out hR) ((hP.below HB5.out).below HB57.out) hU7
theorem un_neg{n:Nat}(H:UnC n)(w:World)(bp d:Nat)(t:Tk)(r:List Tk)(hn:r.length≤n)(hd:d≤60)(hp:QS w bp (t :: r) 0 0)(hg:Gt (t :: r))(h1:isS [126] t=false)(hs:isS [45] t=true) :
  Calls Tryz.prog 118 #[.pointer (some ⟨bp,0,none⟩),.int .i64 (d:Int)] w (OutQ w bp (t :: r) (Rd numV (.lev 5) d (t :: r))):=by
 have hgr:=hg.tail (is_k hs);obtain ⟨t2,r2,hr2⟩:=hgr.cons;have hne:r≠[]:=by rw [hr2];simp
 have hon:(isS [126] t || isS [45] t)=true:=by simp [hs]
 have HGR:=Hi hgr;have HNE:=Hi hne;have HON:=Hi hon;have HS:=Hi hs;have HS1:=Hi h1;obtain ⟨w0,hw0,hb0,hB⟩:=zero_box w;have hlt:=hp.lt;have HP0:=Hi (hp.below hb0);have HBD:=Hi (bad_no w0 bp 0 0 150 false t r (hp.below hb0) (.inl rfl));have HT:=Hi (tok w0 bp 0 0 t r (hp.below hb0));have hdi:¬ (60:Int) < (d:Int):=by omega
 have HB0:=Hi hb0;have HB:=Hi hB;have HW:=Hi hw0;have hbl:=hB.lt;clear hb0 hB hp hw0 hg hgr hne hon hs hr2 h1;go_enter Tryz.func118,Tryz.ntmps118;go_wp2_with fail
 rw [HW.out];refine HBD.out.mono ?_;rintro e w' ⟨rfl,rfl⟩;go_wp2_with fail
 refine HT.out.mono ?_;rintro e w1 ⟨rfl,hb1⟩;obtain ⟨w2,hw2⟩:∃ w2,w1.alloc (.cells #[.int .i64 (t.k:Int),.string ⟨t.s.toArray⟩,.int .i64 (t.at_:Int)] 63)=w2:=⟨_,rfl⟩;have hb2:Below w0.heap.size w0 w2:=by rw [←hw2];exact hb1.alloc hb1.size _
 have hbt:Blk w2 w1.heap.size 63 #[.int .i64 (t.k:Int),.string ⟨t.s.toArray⟩,.int .i64 (t.at_:Int)]:=by rw [←hw2];exact Blk.new _ _ _
 have h01:=hb1.size;have h12:=hbt.lt;have HP2:=Hi (HP0.out.below hb2);have HW2:=Hi hw2;have HU2:=Hi ((below_UB (bp:=bp) HB0.out).trans (below_UB hb2));have HBT:=Hi hbt;have HX2:=Hi (HB.out.below hb2 HB.out.lt);clear hb1 hb2 hw2 hbt HT HBD HP0;have HG0:=Hi (goes_no w2 bp 0 0 t r [126] HP2.out (.inr HS1.out));go_wp2_with fail
 rw [HW2.out];refine HG0.out.mono ?_;rintro e wg ⟨rfl,hbg⟩;have HG:=Hi (goes_yes wg bp t r [45] (HP2.out.below hbg) HS.out HNE.out);have HU2':=Hi (HU2.out.trans (below_UB hbg));have HBT':=Hi (HBT.out.below hbg h12);have HX2':=Hi (HX2.out.below hbg HX2.out.lt);have h2g:=hbg.size;clear hbg;go_wp2_with fail
 refine HG.out.mono ?_;rintro e w3 ⟨rfl,hp3,hu3⟩;have HE:=Hi (H w3 bp (d+1) r hn hp3 HGR.out);have HU3:=Hi (HU2'.out.trans hu3);have HBT3:=Hi (HBT'.out.upd hu3 (by omega));have HX3:=Hi (HX2'.out.upd hu3 (by omega));have h23:=hu3.size;clear hp3 hu3;go_wp2_with fail
 refine HE.out.mono ?_;rintro e w4 ⟨k,a,s,m,A,la,cA,B,lb,cB,rfl,hU,hO⟩;have hbt4:=HBT3.out.upd hU (show ¬ w1.heap.size=bp by omega);obtain ⟨f0,f1,f2,y0,y1,y2⟩:=Blk.c3 hbt4;have h14:=hbt4.lt;have h34:=hU.size;obtain ⟨w5,hw5⟩:∃ w5,w4.alloc (.cells #[.int .i64 (k:Int),.string ⟨s.toArray⟩,.int .u32 (m:Int),.int .i64 (a:Int),.slice A la cA,.slice B lb cB] 26)=w5:=⟨_,rfl⟩;have hb5:Below w4.heap.size w4 w5:=by rw [←hw5];exact (Below.refl _ _).alloc (Nat.le_refl _) _
 have h45:=hb5.size;have hs5:w5.heap.size=w4.heap.size+1:=by rw [←hw5];simp
 have HX5:=Hi ((HX3.out.upd hU (show ¬ w.heap.size=bp by omega)).below hb5 (by omega));have HU5:=Hi ((HU3.out.trans hU).trans (below_UB hb5));have HB5:=Hi hb5;have HW5:=Hi hw5;have HO:=Hi hO;clear hbt4 hU hO hb5 hw5 HE HU3 HBT3 HX3 HU2 HBT HX2 HP2 HW2 HG;go_wp2_with fail
 rw [HW5.out];obtain ⟨w6,hw6⟩:∃ w6,w5.alloc (.cells #[.int .i64 (k:Int),.string ⟨s.toArray⟩,.int .u32 (m:Int),.int .i64 (a:Int),.slice A la cA,.slice B lb cB] 26)=w6:=⟨_,rfl⟩;have hb6:Below w5.heap.size w5 w6:=by rw [←hw6];exact (Below.refl _ _).alloc (Nat.le_refl _) _
 rw [hw6];refine (node w6 2 t.at_ t.s _ 1 1).mono ?_;rintro e w7 ⟨rfl,hb7⟩;have hb57:Below w5.heap.size w5 w7:=hb6.trans (hb7.mono hb6.size);have h1:=HX5.out.below hb57 HX5.out.lt;obtain ⟨⟨e0,e1,e2,e3,e4,e5⟩,z0,z1,z2,z3,z4,z5⟩:=Blk.c6 h1;have H1:=Hi h1;have HB57:=Hi hb57;have HB67:=Hi hb7;have HW6:=Hi hw6;clear h1 hb57 hb6 hb7 hw6;go_wp2_with fail
 refine bodyPost_ret (resNd rfl rfl (Blk.put6 H1.out _ _ _ _ _ _) rfl) rfl ?_;have hU7:UB bp w w7:=HU5.out.trans (below_UB HB57.out);rcases HO.out with ⟨x,r',hT,hR,hP,hG,hr⟩ | ⟨ba,er,t',r',he,hR,hP⟩
 ·have hT5:TIn (fun b=>w.heap.size+1≤b) w5 x (ndC k a s m A la cA B lb cB):=(tup hT (show w.heap.size+1≤w3.heap.size by omega)).upd (Upd.of_below HB5.out fun _=>False) (fun _ _ h=>h);have hA:=ArrT.first (e:=26) hT5 (by omega);rw [show w5.alloc (.cells (ndC k a s m A la cA B lb cB).toArray 26)=w6 from HW6.out] at hA;have hN:=(hA.upd (Upd.of_below HB67.out fun _=>False) (fun _ h=>h.elim)).node (by simp) 2 t.at_ 0 t.s;rw [hs5] at hN;exact q_ok (lo:=w.heap.size+1) hlt (Nat.lt_succ_self _) hN (r_un hd HON.out hR) ((hP.below HB5.out).below HB57.out) hG (by simp;omega) hU7
 ·exact q_bad 2 t.at_ 0 1 1 0 0 t.s _ none hlt he (r_un_bad hd HON.out hR) ((hP.below HB5.out).below HB57.out) hU7
end
section
attribute [local go_sem] fTk0 fTk1 fTk2
theorem rnum(s:Bs)(hs:s.length≤20000)(w:World):Calls Tryz.prog 141 #[.string ⟨s.toArray⟩] w fun e w'=>e = .returned (.tuple #[.int .u32 ((numV s).1:Int),.int .i64 ((numV s).2:Int)])∧Below w.heap.size w w':=by
 have h:=Num.rnumC (Lib.hasPrefix s [48,120]) ⟨s.toArray⟩ w (Num.pre_eq _).symm (by rw [show (ByteArray.mk s.toArray).size=s.length from by simp [ByteArray.size]];unfold maxLen;omega);refine h.mono fun e w' h=>?_
 obtain ⟨rfl,m,rfl⟩:=h;refine ⟨?_,below_drewN (Below.refl _ _) m⟩;unfold numV Lib.trimPrefix;cases hp:Lib.hasPrefix s [48,120]
 ·rfl
 ·rfl
theorem un_num0(w:World)(bp d:Nat)(t:Tk)(r:List Tk)(hd:d≤60)(hp:QS w bp (t :: r) 0 0)(hg:Gt (t :: r))(hk:t.k = 2)(he:(numV t.s).2 = 0) :
  Calls Tryz.prog 118 #[.pointer (some ⟨bp,0,none⟩),.int .i64 (d:Int)] w (OutQ w bp (t :: r) (Rd numV (.lev 5) d (t :: r))):=by
 have hgr:=hg.tail (by omega);obtain ⟨t2,r2,hr2⟩:=hgr.cons;have hne:r≠[]:=by rw [hr2];simp
 have hC:=rnum t.s (hg.ok t (List.mem_cons_self ..)).2;have h126:isS [126] t=false:=isS_low (by omega) _;have h45:isS [45] t=false:=isS_low (by omega) _;have hR:=r_num (num:=numV) (r:=r) hd hk he;rw [he] at hC;generalize (numV t.s).1=nv at hC hR;have HC:=Hi hC;have HR:=Hi hR;have HGR:=Hi hgr;have HNE:=Hi hne;have H126:=Hi h126;have H45:=Hi h45;have hki:((t.k:Int)==2)=true:=by simp [hk]
 obtain ⟨w0,hw0,hb0,hB⟩:=zero_box w;have hlt:=hp.lt;have HP0:=Hi (hp.below hb0);have HBD:=Hi (bad_no w0 bp 0 0 150 false t r (hp.below hb0) (.inl rfl));have HT:=Hi (tok w0 bp 0 0 t r (hp.below hb0));have hdi:¬ (60:Int) < (d:Int):=by omega
 have HB0:=Hi hb0;have HB:=Hi hB;have HW:=Hi hw0;have hbl:=hB.lt;clear hb0 hB hp hw0 hg hgr hne hr2 hC hR h126 h45 hk he;go_enter Tryz.func118,Tryz.ntmps118;go_wp2_with fail
 rw [HW.out];refine HBD.out.mono ?_;rintro e w' ⟨rfl,rfl⟩;go_wp2_with fail
 refine HT.out.mono ?_;rintro e w1 ⟨rfl,hb1⟩;obtain ⟨w2,hw2⟩:∃ w2,w1.alloc (.cells #[.int .i64 (t.k:Int),.string ⟨t.s.toArray⟩,.int .i64 (t.at_:Int)] 63)=w2:=⟨_,rfl⟩;have hb2:Below w0.heap.size w0 w2:=by rw [←hw2];exact hb1.alloc hb1.size _
 have hbt:Blk w2 w1.heap.size 63 #[.int .i64 (t.k:Int),.string ⟨t.s.toArray⟩,.int .i64 (t.at_:Int)]:=by rw [←hw2];exact Blk.new _ _ _
 have h01:=hb1.size;have h12:=hbt.lt;have HP2:=Hi (HP0.out.below hb2);have HW2:=Hi hw2;have HU2:=Hi ((below_UB (bp:=bp) HB0.out).trans (below_UB hb2));have HBT:=Hi hbt;have HX2:=Hi (HB.out.below hb2 HB.out.lt);clear hb1 hb2 hw2 hbt HT HBD HP0;have HG1:=Hi (goes_no w2 bp 0 0 t r [126] HP2.out (.inr H126.out));go_wp2_with fail
 rw [HW2.out];refine HG1.out.mono ?_;rintro e wa ⟨rfl,hba⟩;have HG2:=Hi (goes_no wa bp 0 0 t r [45] (HP2.out.below hba) (.inr H45.out));have HBA:=Hi hba;clear hba;go_wp2_with fail
 refine HG2.out.mono ?_;rintro e w3 ⟨rfl,hb3⟩;have hb23:=HBA.out.trans (hb3.mono HBA.out.size);have h23:=hb23.size;have hbt3:=HBT.out.below hb23 h12;obtain ⟨f0,f1,f2,y0,y1,y2⟩:=Blk.c3 hbt3;have h13:=hbt3.lt;have HP3:=Hi (HP2.out.below hb23);have HU3:=Hi (HU2.out.trans (below_UB hb23));have HBT3:=Hi hbt3;have HX3:=Hi (HX2.out.below hb23 HX2.out.lt);clear hb3 hb23 hbt3 HG1 HG2 HBA HP2 HU2 HBT HX2 HW2;go_wp2_with fail
 refine (HC.out _).mono ?_;rintro e w4 ⟨rfl,hb4⟩;have h34:=hb4.size;have HP4:=Hi (HP3.out.below hb4);have HU4:=Hi (HU3.out.trans (below_UB hb4));have HBT4:=Hi (HBT3.out.below hb4 h13);have HX4:=Hi (HX3.out.below hb4 HX3.out.lt);clear hb4 HP3 HU3 HBT3 HX3 f0 f1 f2 y0 y1 y2;go_wp2_with fail
 refine (bad_no w4 bp 0 0 100 false t r HP4.out (.inl rfl)).mono ?_;rintro e w' ⟨rfl,rfl⟩;go_wp2_with fail
 refine (bad_no w4 bp 0 0 150 false t r HP4.out (.inl rfl)).mono ?_;rintro e w' ⟨rfl,rfl⟩;go_wp2_with fail
 refine (on_yes w4 bp t r HP4.out HNE.out).mono ?_;rintro e w6 ⟨rfl,hp6,hu6⟩;have hbt:=HBT4.out.upd hu6 (by omega);have hx:=HX4.out.upd hu6 (by omega);have HP6:=Hi hp6;have HU6:=Hi (HU4.out.trans hu6);have h46:=hu6.size;clear hp6 hu6;obtain ⟨f0,f1,f2,y0,y1,y2⟩:=Blk.c3 hbt;obtain ⟨⟨e0,e1,e2,e3,e4,e5⟩,z0,z1,z2,z3,z4,z5⟩:=Blk.c6 hx;have H1:=Hi hx;clear hbt hx;go_wp2_with fail
 refine bodyPost_ret (resNd rfl rfl (Blk.put6 H1.out _ _ _ _ _ _) rfl) rfl ?_;exact q_ok (lo:=w.heap.size+1) hlt (Nat.lt_succ_self _) (tIn_leaf _ 0 t.at_ nv []) HR.out HP6.out HGR.out (by simp) HU6.out
theorem un_num2(w:World)(bp d:Nat)(t:Tk)(r:List Tk)(hd:d≤60)(hp:QS w bp (t :: r) 0 0)(hg:Gt (t :: r))(hk:t.k = 2)(he:(numV t.s).2 = 2) :
  Calls Tryz.prog 118 #[.pointer (some ⟨bp,0,none⟩),.int .i64 (d:Int)] w (OutQ w bp (t :: r) (Rd numV (.lev 5) d (t :: r))):=by
 have hgr:=hg.tail (by omega);obtain ⟨t2,r2,hr2⟩:=hgr.cons;have hne:r≠[]:=by rw [hr2];simp
 have hC:=rnum t.s (hg.ok t (List.mem_cons_self ..)).2;have h126:isS [126] t=false:=isS_low (by omega) _;have h45:isS [45] t=false:=isS_low (by omega) _;have hR:=r_num_bad (num:=numV) (r:=r) hd hk (by rw [he];decide);rw [he] at hR;rw [he] at hC;generalize (numV t.s).1=nv at hC;have HC:=Hi hC;have HR:=Hi hR;have HGR:=Hi hgr;have HNE:=Hi hne;have H126:=Hi h126;have H45:=Hi h45;have hki:((t.k:Int)==2)=true:=by simp [hk]
 obtain ⟨w0,hw0,hb0,hB⟩:=zero_box w;have hlt:=hp.lt;have HP0:=Hi (hp.below hb0);have HBD:=Hi (bad_no w0 bp 0 0 150 false t r (hp.below hb0) (.inl rfl));have HT:=Hi (tok w0 bp 0 0 t r (hp.below hb0));have hdi:¬ (60:Int) < (d:Int):=by omega
 have HB0:=Hi hb0;have HB:=Hi hB;have HW:=Hi hw0;have hbl:=hB.lt;clear hb0 hB hp hw0 hg hgr hne hr2 hC hR h126 h45 hk he;go_enter Tryz.func118,Tryz.ntmps118;go_wp2_with fail
 rw [HW.out];refine HBD.out.mono ?_;rintro e w' ⟨rfl,rfl⟩;go_wp2_with fail
 refine HT.out.mono ?_;rintro e w1 ⟨rfl,hb1⟩;obtain ⟨w2,hw2⟩:∃ w2,w1.alloc (.cells #[.int .i64 (t.k:Int),.string ⟨t.s.toArray⟩,.int .i64 (t.at_:Int)] 63)=w2:=⟨_,rfl⟩;have hb2:Below w0.heap.size w0 w2:=by rw [←hw2];exact hb1.alloc hb1.size _
 have hbt:Blk w2 w1.heap.size 63 #[.int .i64 (t.k:Int),.string ⟨t.s.toArray⟩,.int .i64 (t.at_:Int)]:=by rw [←hw2];exact Blk.new _ _ _
 have h01:=hb1.size;have h12:=hbt.lt;have HP2:=Hi (HP0.out.below hb2);have HW2:=Hi hw2;have HU2:=Hi ((below_UB (bp:=bp) HB0.out).trans (below_UB hb2));have HBT:=Hi hbt;have HX2:=Hi (HB.out.below hb2 HB.out.lt);clear hb1 hb2 hw2 hbt HT HBD HP0;have HG1:=Hi (goes_no w2 bp 0 0 t r [126] HP2.out (.inr H126.out));go_wp2_with fail
 rw [HW2.out];refine HG1.out.mono ?_;rintro e wa ⟨rfl,hba⟩;have HG2:=Hi (goes_no wa bp 0 0 t r [45] (HP2.out.below hba) (.inr H45.out));have HBA:=Hi hba;clear hba;go_wp2_with fail
 refine HG2.out.mono ?_;rintro e w3 ⟨rfl,hb3⟩;have hb23:=HBA.out.trans (hb3.mono HBA.out.size);have h23:=hb23.size;have hbt3:=HBT.out.below hb23 h12;obtain ⟨f0,f1,f2,y0,y1,y2⟩:=Blk.c3 hbt3;have h13:=hbt3.lt;have HP3:=Hi (HP2.out.below hb23);have HU3:=Hi (HU2.out.trans (below_UB hb23));have HBT3:=Hi hbt3;have HX3:=Hi (HX2.out.below hb23 HX2.out.lt);clear hb3 hb23 hbt3 HG1 HG2 HBA HP2 HU2 HBT HX2 HW2;go_wp2_with fail
 refine (HC.out _).mono ?_;rintro e w4 ⟨rfl,hb4⟩;have h34:=hb4.size;have HP4:=Hi (HP3.out.below hb4);have HU4:=Hi (HU3.out.trans (below_UB hb4));have HBT4:=Hi (HBT3.out.below hb4 h13);have HX4:=Hi (HX3.out.below hb4 HX3.out.lt);clear hb4 HP3 HU3 HBT3 HX3 f0 f1 f2 y0 y1 y2;go_wp2_with fail
 refine (bad_no w4 bp 0 0 100 false t r HP4.out (.inl rfl)).mono ?_;rintro e w' ⟨rfl,rfl⟩;go_wp2_with fail
 refine (bad_yes w4 bp 150 t r HP4.out).mono ?_;rintro e w5 ⟨rfl,hp5,hu5⟩;have h45':=hu5.size;have HP5:=Hi hp5;have HU5:=Hi (HU4.out.trans hu5);have HBT5:=Hi (HBT4.out.upd hu5 (by omega));have HX5:=Hi (HX4.out.upd hu5 (by omega));clear hp5 hu5;go_wp2_with fail
 refine (on_no w5 bp t.at_ 150 t r HP5.out (by decide)).mono ?_;rintro e w6 ⟨rfl,hb6⟩;have hbt:=HBT5.out.below hb6 (by omega);have hx:=HX5.out.below hb6 HX5.out.lt;have HP6:=Hi (HP5.out.below hb6);have HU6:=Hi (HU5.out.trans (below_UB hb6));have h56:=hb6.size;clear hb6;obtain ⟨f0,f1,f2,y0,y1,y2⟩:=Blk.c3 hbt;obtain ⟨⟨e0,e1,e2,e3,e4,e5⟩,z0,z1,z2,z3,z4,z5⟩:=Blk.c6 hx;have H1:=Hi hx;clear hbt hx;go_wp2_with fail
 refine bodyPost_ret (resNd rfl rfl (Blk.put6 H1.out _ _ _ _ _ _) rfl) rfl ?_;exact q_bad 0 t.at_ nv 0 0 0 0 [] none none hlt (by decide) HR.out HP6.out HU6.out
theorem un_num4(w:World)(bp d:Nat)(t:Tk)(r:List Tk)(hd:d≤60)(hp:QS w bp (t :: r) 0 0)(hg:Gt (t :: r))(hk:t.k = 2)(he:(numV t.s).2 = 4) :
  Calls Tryz.prog 118 #[.pointer (some ⟨bp,0,none⟩),.int .i64 (d:Int)] w (OutQ w bp (t :: r) (Rd numV (.lev 5) d (t :: r))):=by
 have hgr:=hg.tail (by omega);obtain ⟨t2,r2,hr2⟩:=hgr.cons;have hne:r≠[]:=by rw [hr2];simp
 have hC:=rnum t.s (hg.ok t (List.mem_cons_self ..)).2;have h126:isS [126] t=false:=isS_low (by omega) _;have h45:isS [45] t=false:=isS_low (by omega) _;have hR:=r_num_bad (num:=numV) (r:=r) hd hk (by rw [he];decide);rw [he] at hR;rw [he] at hC;generalize (numV t.s).1=nv at hC;have HC:=Hi hC;have HR:=Hi hR;have HGR:=Hi hgr;have HNE:=Hi hne;have H126:=Hi h126;have H45:=Hi h45;have hki:((t.k:Int)==2)=true:=by simp [hk]
 obtain ⟨w0,hw0,hb0,hB⟩:=zero_box w;have hlt:=hp.lt;have HP0:=Hi (hp.below hb0);have HBD:=Hi (bad_no w0 bp 0 0 150 false t r (hp.below hb0) (.inl rfl));have HT:=Hi (tok w0 bp 0 0 t r (hp.below hb0));have hdi:¬ (60:Int) < (d:Int):=by omega
 have HB0:=Hi hb0;have HB:=Hi hB;have HW:=Hi hw0;have hbl:=hB.lt;clear hb0 hB hp hw0 hg hgr hne hr2 hC hR h126 h45 hk he;go_enter Tryz.func118,Tryz.ntmps118;go_wp2_with fail
 rw [HW.out];refine HBD.out.mono ?_;rintro e w' ⟨rfl,rfl⟩;go_wp2_with fail
 refine HT.out.mono ?_;rintro e w1 ⟨rfl,hb1⟩;obtain ⟨w2,hw2⟩:∃ w2,w1.alloc (.cells #[.int .i64 (t.k:Int),.string ⟨t.s.toArray⟩,.int .i64 (t.at_:Int)] 63)=w2:=⟨_,rfl⟩;have hb2:Below w0.heap.size w0 w2:=by rw [←hw2];exact hb1.alloc hb1.size _
 have hbt:Blk w2 w1.heap.size 63 #[.int .i64 (t.k:Int),.string ⟨t.s.toArray⟩,.int .i64 (t.at_:Int)]:=by rw [←hw2];exact Blk.new _ _ _
 have h01:=hb1.size;have h12:=hbt.lt;have HP2:=Hi (HP0.out.below hb2);have HW2:=Hi hw2;have HU2:=Hi ((below_UB (bp:=bp) HB0.out).trans (below_UB hb2));have HBT:=Hi hbt;have HX2:=Hi (HB.out.below hb2 HB.out.lt);clear hb1 hb2 hw2 hbt HT HBD HP0;have HG1:=Hi (goes_no w2 bp 0 0 t r [126] HP2.out (.inr H126.out));go_wp2_with fail
 rw [HW2.out];refine HG1.out.mono ?_;rintro e wa ⟨rfl,hba⟩;have HG2:=Hi (goes_no wa bp 0 0 t r [45] (HP2.out.below hba) (.inr H45.out));have HBA:=Hi hba;clear hba;go_wp2_with fail
 refine HG2.out.mono ?_;rintro e w3 ⟨rfl,hb3⟩;have hb23:=HBA.out.trans (hb3.mono HBA.out.size);have h23:=hb23.size;have hbt3:=HBT.out.below hb23 h12;obtain ⟨f0,f1,f2,y0,y1,y2⟩:=Blk.c3 hbt3;have h13:=hbt3.lt;have HP3:=Hi (HP2.out.below hb23);have HU3:=Hi (HU2.out.trans (below_UB hb23));have HBT3:=Hi hbt3;have HX3:=Hi (HX2.out.below hb23 HX2.out.lt);clear hb3 hb23 hbt3 HG1 HG2 HBA HP2 HU2 HBT HX2 HW2;go_wp2_with fail
 refine (HC.out _).mono ?_;rintro e w4 ⟨rfl,hb4⟩;have h34:=hb4.size;have HP4:=Hi (HP3.out.below hb4);have HU4:=Hi (HU3.out.trans (below_UB hb4));have HBT4:=Hi (HBT3.out.below hb4 h13);have HX4:=Hi (HX3.out.below hb4 HX3.out.lt);clear hb4 HP3 HU3 HBT3 HX3 f0 f1 f2 y0 y1 y2;go_wp2_with fail
 refine (bad_yes w4 bp 100 t r HP4.out).mono ?_;rintro e w5 ⟨rfl,hp5,hu5⟩;have h45':=hu5.size;have HP5:=Hi hp5;have HU5:=Hi (HU4.out.trans hu5);have HBT5:=Hi (HBT4.out.upd hu5 (by omega));have HX5:=Hi (HX4.out.upd hu5 (by omega));clear hp5 hu5;go_wp2_with fail
 refine (bad_no w5 bp t.at_ 100 150 true t r HP5.out (.inr (by decide))).mono ?_;rintro e w' ⟨rfl,rfl⟩;go_wp2_with fail
 refine (on_no w5 bp t.at_ 100 t r HP5.out (by decide)).mono ?_;rintro e w6 ⟨rfl,hb6⟩;have hbt:=HBT5.out.below hb6 (by omega);have hx:=HX5.out.below hb6 HX5.out.lt;have HP6:=Hi (HP5.out.below hb6);have HU6:=Hi (HU5.out.trans (below_UB hb6));have h56:=hb6.size;clear hb6;obtain ⟨f0,f1,f2,y0,y1,y2⟩:=Blk.c3 hbt;obtain ⟨⟨e0,e1,e2,e3,e4,e5⟩,z0,z1,z2,z3,z4,z5⟩:=Blk.c6 hx;have H1:=Hi hx;clear hbt hx;go_wp2_with fail
 refine bodyPost_ret (resNd rfl rfl (Blk.put6 H1.out _ _ _ _ _ _) rfl) rfl ?_;exact q_bad 0 t.at_ nv 0 0 0 0 [] none none hlt (by decide) HR.out HP6.out HU6.out
end
end Go.Proofs.YtcgibpdjfgjldaaGreatDoor.Pq
