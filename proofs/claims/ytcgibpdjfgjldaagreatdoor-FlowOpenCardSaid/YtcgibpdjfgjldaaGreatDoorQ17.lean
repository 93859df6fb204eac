/- DERIVED. RqCa. By an AI agent. -/
import Derived.Test.YtcgibpdjfgjldaaGreatDoorQ01
import Derived.Test.YtcgibpdjfgjldaaGreatDoorQ13
import Derived.Test.YtcgibpdjfgjldaaGreatDoorQ16
set_option maxRecDepth 100000
set_option maxHeartbeats 8000000
set_option linter.unusedVariables false
set_option linter.unusedSimpArgs false
namespace Go.Proofs.YtcgibpdjfgjldaaGreatDoor.Pq
open Go Go.ChangeShapes Go.WideShapes Go.ChangeAt Go.RowKit Lx Args Pa
section
attribute [local go_sem] fTk0 fTk1 fTk2
def meQ(w:World)(bp:Nat):Nat:=match w.cell? ⟨bp,3,none⟩ with
 | some (.int _ 0)=>(match w.cell? ⟨bp,0,none⟩,w.cell? ⟨bp,1,none⟩ with | some (.slice _ n _),some (.int _ a)=>n - a.toNat+1 | _,_=>0)
 | _=>0
theorem QS.me{w:World}{bp ba:Nat}{l:List Tk}(h:QS w bp l ba 0):meQ w bp=l.length+1:=by
 obtain ⟨b,o,c,pre,_,h1,_⟩:=h;unfold meQ;rw [show w.cell? ⟨bp,3,none⟩=some (.int .i64 0) from h1.cell 3,show w.cell? ⟨bp,0,none⟩=some (.slice (some ⟨b,o,none⟩) (pre.length+l.length) c) from h1.cell 0,show w.cell? ⟨bp,1,none⟩=some (.int .i64 (pre.length:Int)) from h1.cell 1];show pre.length+l.length - ((pre.length:Int)).toNat+1=_;omega
theorem QS.me0{w:World}{bp ba wy:Nat}{l:List Tk}(h:QS w bp l ba wy)(hw:wy≠0):meQ w bp = 0:=by
 obtain ⟨b,o,c,pre,_,h1,_⟩:=h;unfold meQ;rw [show w.cell? ⟨bp,3,none⟩=some (.int .i64 (wy:Int)) from h1.cell 3];split
 ·rename_i he;simp at he;omega
 ·rfl
structure CaL(w:World)(lo bp d a:Nat)(s:Bs)(q l:List Tk)(xs:List Tr)(g c:Nat)(W:World):Prop where
 rd:∃ x r1,Rd numV (.lev 0) (d+1) q (.ok [x] r1)∧∀ o,Rd numV (.args xs) (d+1) l o→Rd numV (.args [x]) (d+1) r1 o
 qs:QS W bp l 0 0
 gt:Gt l
 lt:l.length < q.length
 arr:ArrT 26 lo W g c xs
 few:xs.length+l.length≤4000
def CaI(w:World)(lo bp d a:Nat)(s:Bs)(q:List Tk)(n g c:Nat)(W:World):Prop:=
 (∃ l xs,n=xs.length∧CaL w lo bp d a s q l xs g c W)∨(∃ ba er t r,er≠0∧Ev (fun f=>ArK numV f d a s q) (.bad ba er)∧QS W bp (t :: r) ba er)
theorem un_call{n:Nat}(H:ExQ n)(w:World)(bp d:Nat)(t u:Tk)(q:List Tk)(hn:q.length≤n)(hd:d≤60)(hp:QS w bp (t :: u :: q) 0 0)(hg:Gt (t :: u :: q))(hk:t.k = 1)(hu:isS [40] u=true) :
  Calls Tryz.prog 118 #[.pointer (some ⟨bp,0,none⟩),.int .i64 (d:Int)] w (OutQ w bp (t :: u :: q) (Rd numV (.lev 5) d (t :: u :: q))):=by
 obtain ⟨i0,hi,hz⟩:=Option.map_eq_some_iff.1 infoNd;have hz0:=congrArg (·.1) hz;have hz1:=congrArg (·.2.1) hz;have hz2:=congrArg (·.2.2) hz;have HI:=Hi hi;have HZ0:=Hi hz0;have HZ1:=Hi hz1;have HZ2:=Hi hz2;clear hi hz hz0 hz1 hz2;have hR:∀ o,Ev (fun f=>ArK numV f d t.at_ t.s q) o→Rd numV (.lev 5) d (t :: u :: q) o:=fun o h=>r_call hd hk hu h
 have h126:isS [126] t=false:=isS_low (by omega) _;have h45:isS [45] t=false:=isS_low (by omega) _;have h40:isS [40] t=false:=isS_low (by omega) _;have hgr:=hg.tail (by omega);have hgq:=hgr.tail (is_k hu);have hneq:q≠[]:=by obtain ⟨t3,r3,h3⟩:=hgq.cons;rw [h3];simp
 have hki:((t.k:Int)==2)=false:=by simp;omega
 obtain ⟨r,hr⟩:∃ r,u :: q=r:=⟨_,rfl⟩;have hne:r≠[]:=by rw [←hr];simp
 rw [hr] at hp hR ⊢;have HR:=Hi hR;have H126:=Hi h126;have H45:=Hi h45;have H40:=Hi h40;have HK1:=Hi hk;have HUU:=Hi hu;have HGQ:=Hi hgq;have HNE:=Hi hne;have HRR:=Hi hr;have HNQ:=Hi hneq;obtain ⟨w0,hw0,hb0,hB⟩:=zero_box w;have hlt:=hp.lt;have HP0:=Hi (hp.below hb0);have HBD:=Hi (bad_no w0 bp 0 0 150 false t r (hp.below hb0) (.inl rfl));have HT:=Hi (tok w0 bp 0 0 t r (hp.below hb0));have hdi:¬ (60:Int) < (d:Int):=by omega
 have HB0:=Hi hb0;have HB:=Hi hB;have HW:=Hi hw0;have hbl:=hB.lt;clear hb0 hB hp hw0 hR hk h126 h45 h40 hu hgr hg hgq hneq hne hr;go_enter Tryz.func118,Tryz.ntmps118;go_wp2_with fail
 rw [HW.out];refine HBD.out.mono ?_;rintro e w' ⟨rfl,rfl⟩;go_wp2_with fail
 refine HT.out.mono ?_;rintro e w1 ⟨rfl,hb1⟩;obtain ⟨w2,hw2⟩:∃ w2,w1.alloc (.cells #[.int .i64 (t.k:Int),.string ⟨t.s.toArray⟩,.int .i64 (t.at_:Int)] 63)=w2:=⟨_,rfl⟩;have hb2:Below w0.heap.size w0 w2:=by rw [←hw2];exact hb1.alloc hb1.size _
 have hbt:Blk w2 w1.heap.size 63 #[.int .i64 (t.k:Int),.string ⟨t.s.toArray⟩,.int .i64 (t.at_:Int)]:=by rw [←hw2];exact Blk.new _ _ _
 have h01:=hb1.size;have h12:=hbt.lt;have HP2:=Hi (HP0.out.below hb2);have HW2:=Hi hw2;have HU2:=Hi ((below_UB (bp:=bp) HB0.out).trans (below_UB hb2));have HBT:=Hi hbt;have HX2:=Hi (HB.out.below hb2 HB.out.lt);clear hb1 hb2 hw2 hbt HT HBD HP0;have HG1:=Hi (goes_no w2 bp 0 0 t r [126] HP2.out (.inr H126.out));go_wp2_with fail
 rw [HW2.out];refine HG1.out.mono ?_;rintro e wa ⟨rfl,hba⟩;have HG2:=Hi (goes_no wa bp 0 0 t r [45] (HP2.out.below hba) (.inr H45.out));have HBA:=Hi hba;clear hba;go_wp2_with fail
 refine HG2.out.mono ?_;rintro e w3 ⟨rfl,hb3⟩;have hb23:=HBA.out.trans (hb3.mono HBA.out.size);have h23:=hb23.size;have hbt3:=HBT.out.below hb23 h12;obtain ⟨f0,f1,f2,y0,y1,y2⟩:=Blk.c3 hbt3;have h13:=hbt3.lt;have HP3:=Hi (HP2.out.below hb23);have HU3:=Hi (HU2.out.trans (below_UB hb23));have HBT3:=Hi hbt3;have HX3:=Hi (HX2.out.below hb23 HX2.out.lt);clear hb3 hb23 hbt3 HG1 HG2 HBA HP2 HU2 HBT HX2 HW2;go_wp2_with fail
 refine (goes_no w3 bp 0 0 t r [40] HP3.out (.inr H40.out)).mono ?_;rintro e w4 ⟨rfl,hb4⟩;have h34:=hb4.size;have HP4:=Hi (HP3.out.below hb4);have HU4:=Hi (HU3.out.trans (below_UB hb4));have HBT4:=Hi (HBT3.out.below hb4 (by omega));have HX4:=Hi (HX3.out.below hb4 HX3.out.lt);clear hb4 HP3 HU3 HBT3 HX3;clear f0 f1 f2 y0 y1 y2;go_wp2_with fail
 refine (name_yes w4 bp t r HP4.out HK1.out HNE.out).mono ?_;rintro e w5 ⟨rfl,hp5,hu5⟩;have h45':=hu5.size;rw [←HRR.out] at hp5;have HP5:=Hi hp5;have HU5:=Hi (HU4.out.trans hu5);have HBT5:=Hi (HBT4.out.upd hu5 (by omega));have HX5:=Hi (HX4.out.upd hu5 (by omega));clear hp5 hu5 HP4 HU4 HBT4 HX4;go_wp2_with fail
 refine (goes_yes w5 bp u q [40] HP5.out HUU.out HNQ.out).mono ?_;rintro e w6 ⟨rfl,hp6,hu6⟩;have h56:=hu6.size;have HE:=Hi (H w6 bp (d+1) q hn hp6 HGQ.out);have HU6:=Hi (HU5.out.trans hu6);have HBT6:=Hi (HBT5.out.upd hu6 (by omega));have HX6:=Hi (HX5.out.upd hu6 (by omega));clear hp6 hu6 HP5 HU5 HBT5 HX5;go_wp2_with fail
 refine HE.out.mono ?_;rintro e w7 ⟨k,a,s,m,A,la,cA,B,lb,cB,rfl,hU,hO⟩;obtain ⟨w8,hw8⟩:∃ w8,w7.alloc (.cells #[.int .i64 (k:Int),.string ⟨s.toArray⟩,.int .u32 (m:Int),.int .i64 (a:Int),.slice A la cA,.slice B lb cB] 26)=w8:=⟨_,rfl⟩;have hb8:Below w7.heap.size w7 w8:=by rw [←hw8];exact (Below.refl _ _).alloc (Nat.le_refl _) _
 obtain ⟨w9,hw9⟩:∃ w9,w8.alloc (.cells #[.int .i64 (k:Int),.string ⟨s.toArray⟩,.int .u32 (m:Int),.int .i64 (a:Int),.slice A la cA,.slice B lb cB] 26)=w9:=⟨_,rfl⟩;have hb9:Below w8.heap.size w8 w9:=by rw [←hw9];exact (Below.refl _ _).alloc (Nat.le_refl _) _
 have hs8:w8.heap.size=w7.heap.size+1:=by rw [←hw8];simp
 have h67:=hU.size;have h89:=hb9.size;have hb79:Below w7.heap.size w7 w9:=hb8.trans (hb9.mono hb8.size);have HX9:=Hi ((HX6.out.upd hU (show ¬ w.heap.size=bp by omega)).below hb79 (by omega));have HBT9:=Hi ((HBT6.out.upd hU (show ¬ w1.heap.size=bp by omega)).below hb79 (by omega));have HU9:=Hi ((HU6.out.trans hU).trans (below_UB hb79));have HJ:Hid (CaI w (w1.heap.size+1) bp d t.at_ t.s q 1 w8.heap.size 1 w9):=Hi (by
  rcases hO with ⟨x,r',hT,hR,hP,hG,hr⟩ | ⟨ba,er,v,r',he,hR,hP⟩
  ·refine .inl ⟨r',[x],rfl,⟨⟨x,r',hR,fun o h=>h⟩,hP.below hb79,hG,hr,?_,?_⟩⟩
   ·have hT8:TIn (fun b=>w1.heap.size+1≤b) w8 x (ndC k a s m A la cA B lb cB):=(tup hT (show w1.heap.size+1≤w6.heap.size by omega)).upd (Upd.of_below hb8 fun _=>False) (fun _ _ h=>h);have hA:=ArrT.first (e:=26) hT8 (by omega)
    rwa [show w8.alloc (.cells (ndC k a s m A la cA B lb cB).toArray 26)=w9 from hw9] at hA
   ·have:=HGQ.out.few;simp;omega
  ·exact .inr ⟨ba,er,v,r',he,ar_bad hR,hP.below hb79⟩)
 have HW8:=Hi hw8;have HW9:=Hi hw9;rw [hs8] at HJ;clear hU hO hb8 hw8 hb9 hw9 hb79 HE HU6 HBT6 HX6;go_wp2_with fail
 rw [HW8.out,HW9.out]
 go_loopw [12] (fun vl wr=>∃ n' g c,vl = .slice (some ⟨g,0,none⟩) n' c∧Hid (CaI w (w1.heap.size+1) bp d t.at_ t.s q n' g c wr)∧Hid (UB bp w wr)∧Hid (Blk wr w.heap.size 26 zNd)∧Hid (Blk wr w1.heap.size 63 #[.int .i64 (t.k:Int),.string ⟨t.s.toArray⟩,.int .i64 (t.at_:Int)])∧w9.heap.size≤wr.heap.size) (fun _ wr=>meQ wr bp)
 case atStart=>exact ⟨1,_,1,rfl,HJ,HU9,HX9,HBT9,Nat.le_refl _⟩
 case round=>
  clear HJ HU9 HX9 HBT9;obtain ⟨n',g,c,rfl,HJ,HUr,HXr,HBTr,h9r⟩:=hrel;rcases HJ.out with ⟨l,xs,rfl,hL⟩ | ⟨ba,er,v,r',he,hR9,hP9⟩
  ·have HH:=Hi hL;clear hL HJ;obtain ⟨v,r',rfl⟩:=HH.out.gt.cons;by_cases hv:isS [44] v=true
   ·have hgr:=HH.out.gt.tail (is_k hv);have hner:r'≠[]:=by obtain ⟨t3,r3,h3⟩:=hgr.cons;rw [h3];simp
    have hln:r'.length≤n:=by have:=HH.out.lt;simp at this;omega
    have HGO:=Hi (goes_yes wr bp v r' [44] HH.out.qs hv hner);have HGR:=Hi hgr;have HV:=Hi hv;clear hgr hner hv;go_wp2_with fail
    refine HGO.out.mono ?_;rintro e wa ⟨rfl,hpa,hua⟩;have HEa:=Hi (H wa bp (d+1) r' hln hpa HGR.out);have HUa:=Hi hua;have hra:=hua.size;clear hpa hua;go_wp2_with fail
    refine HEa.out.mono ?_;rintro e wb ⟨k',a',s',m',A',la',cA',B',lb',cB',rfl,hU,hO⟩;obtain ⟨wc,hwc⟩:∃ wc,wb.alloc (.cells #[.int .i64 (k':Int),.string ⟨s'.toArray⟩,.int .u32 (m':Int),.int .i64 (a':Int),.slice A' la' cA',.slice B' lb' cB'] 26)=wc:=⟨_,rfl⟩;have hbc:Below wb.heap.size wb wc:=by rw [←hwc];exact (Below.refl _ _).alloc (Nat.le_refl _) _
    have hsc:wc.heap.size=wb.heap.size+1:=by rw [←hwc];simp
    have hab:=hU.size;have hurc:UB bp wr wc:=(HUa.out.trans hU).trans (below_UB hbc);obtain ⟨css,how,hts⟩:=HH.out.arr;have hgg:=own_at how;have HOA:=Hi (World.ownsRow.alloc (own_upd3 how hurc (by omega)) (.cells #[.int .i64 (k':Int),.string ⟨s'.toArray⟩,.int .u32 (m':Int),.int .i64 (a':Int),.slice A' la' cA',.slice B' lb' cB'] 26));have HLI:=Hi (lies_full wc 26 (ndC k' a' s' m' A' la' cA' B' lb' cB'));have HBS:=Hi (show w1.heap.size+1≤(wc.alloc (.cells #[.int .i64 (k':Int),.string ⟨s'.toArray⟩,.int .u32 (m':Int),.int .i64 (a':Int),.slice A' la' cA',.slice B' lb' cB'] 26)).heap.size by simp;omega);have hfew:=HH.out.few;simp only [List.length_cons] at hfew;have HOW:=Hi how;have HTS:=Hi hts;have HURC:=Hi hurc;have HO:=Hi hO;have HBC:=Hi hbc;have HWC:=Hi hwc;have HSC:=Hi hsc;have HXc:=Hi (HXr.out.upd hurc (show ¬ w.heap.size=bp by omega));have HBTc:=Hi (HBTr.out.upd hurc (show ¬ w1.heap.size=bp by omega));have HUc:=Hi (HUr.out.trans hurc);have hxl:=(HXr.out.upd hurc (show ¬ w.heap.size=bp by omega)).lt;have htl:=(HBTr.out.upd hurc (show ¬ w1.heap.size=bp by omega)).lt;clear how hts hurc hU hO hbc hwc;rw [hsc] at HLI;go_wp2_with (at_builtin;rw [HWC.out];refine wpList_where rfl _ _ 23 rfl (w1.heap.size+1) 26 i0 (.agg zNd) 6 88 Tryz.underlying23 HI.out HZ0.out HZ1.out HZ2.out rfl (by decide) _ xs.length _ rfl HOA.out ⟨wb.heap.size+1,0,none⟩ 1 1 (ndC k' a' s' m' A' la' cA' B' lb' cB') rfl rfl HLI.out (by simp [ndC,Value.oneCell']) (by unfold maxLen;omega) (by omega) HBS.out (by decide) ?_;intro g8 c8 w8' hE;have HE8:=Hi hE;clear hE)
    have hu8:Upd (fun b=>b=g) wc w8':=((Upd.refl (fun b=>b=g) wc).alloc _).grown HE8.out.grown fun k hk _=>by cases hk;rfl
    have hU8:UB bp w w8':=(HUc.out.alloc _).grown HE8.out.grown fun k hk hs=>by
     cases hk;exact absurd hs (by show ¬ g < w.heap.size;omega)
    have hc8:=hu8.size;have hJ8:CaI w (w1.heap.size+1) bp d t.at_ t.s q (xs.length+1) g8 c8 w8':=by
     obtain ⟨x,r1,hx,hrd⟩:=HH.out.rd;rcases HO.out with ⟨y,r5,hT,hR,hP,hG,hr⟩ | ⟨ba,er,t5,r5,he,hR,hP⟩
     ·have hTc:TIn (fun b=>wr.heap.size≤b) wc y (ndC k' a' s' m' A' la' cA' B' lb' cB'):=(tup hT (show wr.heap.size≤wa.heap.size by omega)).upd (Upd.of_below HBC.out fun _=>False) (fun _ _ h=>h);have hst:=arr_step HOW.out HTS.out (by omega) HURC.out hTc HE8.out;refine .inl ⟨r5,xs ++ [y],by simp,⟨⟨x,r1,hx,fun o h=>hrd o (r_args HV.out hR h)⟩,(hP.below HBC.out).far hu8 fun b hb=>by omega,hG,by have:=HH.out.lt;simp at this ⊢;omega,hst.1,by simp;omega⟩⟩
     ·exact .inr ⟨ba,er,t5,r5,he,ar_bad1 hx (hrd _ (r_args_bad HV.out hR)),(hP.below HBC.out).far hu8 fun b hb=>by omega⟩
    have HX8:=Hi (HXc.out.upd hu8 (show ¬ w.heap.size=g by omega));have HBT8:=Hi (HBTc.out.upd hu8 (show ¬ w1.heap.size=g by omega));have HU8:=Hi hU8;have HJ8:=Hi hJ8;clear hu8 hU8 hJ8
    go_roundw
    case rel=>exact ⟨xs.length+1,g8,c8,rfl,HJ8,HU8,HX8,HBT8,by omega⟩
    case measure=>
     rw [HH.out.qs.me];rcases HJ8.out with ⟨l2,xs2,_,hL2⟩ | ⟨ba,er,t5,r5,he,hR,hP⟩
     ·rw [hL2.qs.me];rcases HO.out with ⟨y,r5,hT,hR,hP,hG,hr⟩ | ⟨ba,er,t5,r5,he,hR,hP⟩
      ·have h1:=((hP.below HBC.out).far (X:=fun b=>b=g) (((Upd.refl (fun b=>b=g) wc).alloc _).grown HE8.out.grown fun k hk _=>by cases hk;rfl) fun b hb=>by omega).me;have h2:=hL2.qs.me;simp only [List.length_cons];omega
      ·have h1:=((hP.below HBC.out).far (X:=fun b=>b=g) (((Upd.refl (fun b=>b=g) wc).alloc _).grown HE8.out.grown fun k hk _=>by cases hk;rfl) fun b hb=>by omega).me0 he;have h2:=hL2.qs.me;omega
     ·rw [hP.me0 he];simp
   ·have hv':isS [44] v=false:=by simpa using hv
    have HGO:=Hi (goes_no wr bp 0 0 v r' [44] HH.out.qs (.inr hv'));have HV:=Hi hv';clear hv hv';go_wp2_with fail
    refine HGO.out.mono ?_;rintro e wa ⟨rfl,hba⟩;have hra:=hba.size;have hqa:=HH.out.qs.below hba;have HUa:=Hi (HUr.out.trans (below_UB hba));have HXa:=Hi (HXr.out.below hba HXr.out.lt);have HBTa:=Hi (HBTr.out.below hba HBTr.out.lt);have HAa:=Hi (HH.out.arr.upd (Upd.of_below hba fun _=>False) (fun _ h=>h.elim));have hfew:=HH.out.few;clear hba;by_cases hm:isS [41] v=true
    ·have hgr:=HH.out.gt.tail (is_k hm);have hner:r'≠[]:=by obtain ⟨t3,r3,h3⟩:=hgr.cons;rw [h3];simp
     have HM:=Hi (must_yes wa bp v r' [41] hqa hm hner);have HGR:=Hi hgr;have HMV:=Hi hm;clear hgr hner hm hqa;go_wp2_with fail
     refine HM.out.mono ?_;rintro e w10 ⟨rfl,hp10,hu10⟩;have HP10:=Hi hp10;have HU10:=Hi (HUa.out.trans hu10);have HX10:=Hi (HXa.out.upd hu10 (by omega));have HA10:=Hi (HAa.out.upd hu10 fun b hb=>by omega);have hbt:=HBTa.out.upd hu10 (show ¬ w1.heap.size=bp by omega);obtain ⟨f0,f1,f2,y0,y1,y2⟩:=Blk.c3 hbt;have hbl10:=hbt.lt;clear hp10 hu10 hbt;go_wp2_with fail
     refine (node w10 5 t.at_ t.s _ _ _).mono ?_;rintro e w11 ⟨rfl,hb11⟩;have hx:=HX10.out.below hb11 HX10.out.lt;obtain ⟨⟨e0,e1,e2,e3,e4,e5⟩,z0,z1,z2,z3,z4,z5⟩:=Blk.c6 hx;have H1:=Hi hx;have HB11:=Hi hb11;clear hx hb11 f0 f1 f2 y0 y1 y2;go_wp2_with fail
     refine bodyPost_ret (resNd rfl rfl (Blk.put6 H1.out _ _ _ _ _ _) rfl) rfl ?_;have hN:=(HA10.out.upd (Upd.of_below HB11.out fun _=>False) (fun _ h=>h.elim)).node (by omega) 5 t.at_ 0 t.s;obtain ⟨x,r1,hx,hrd⟩:=HH.out.rd;have hl9:=HH.out.lt;exact q_ok (lo:=w1.heap.size+1) hlt (by omega) hN (HR.out _ (ar_ok hx (hrd _ (r_args_stop HV.out)) HMV.out)) (HP10.out.below HB11.out) HGR.out (by rw [←HRR.out];simp at hl9 ⊢;omega) (HU10.out.trans (below_UB HB11.out))
    ·have hm':isS [41] v=false:=by simpa using hm
     have HM:=Hi (must_no wa bp v r' [41] hqa hm');have HMV:=Hi hm';clear hm hm' hqa;go_wp2_with fail
     refine HM.out.mono ?_;rintro e w10 ⟨rfl,hp10,hu10⟩;have HP10:=Hi hp10;have HU10:=Hi (HUa.out.trans hu10);have HX10:=Hi (HXa.out.upd hu10 (by omega));have hbt:=HBTa.out.upd hu10 (show ¬ w1.heap.size=bp by omega);obtain ⟨f0,f1,f2,y0,y1,y2⟩:=Blk.c3 hbt;have hbl10:=hbt.lt;clear hp10 hu10 hbt;go_wp2_with fail
     refine (node w10 5 t.at_ t.s _ _ _).mono ?_;rintro e w11 ⟨rfl,hb11⟩;have hx:=HX10.out.below hb11 HX10.out.lt;obtain ⟨⟨e0,e1,e2,e3,e4,e5⟩,z0,z1,z2,z3,z4,z5⟩:=Blk.c6 hx;have H1:=Hi hx;have HB11:=Hi hb11;clear hx hb11 f0 f1 f2 y0 y1 y2;go_wp2_with fail
     refine bodyPost_ret (resNd rfl rfl (Blk.put6 H1.out _ _ _ _ _ _) rfl) rfl ?_;obtain ⟨x,r1,hx,hrd⟩:=HH.out.rd;exact q_bad 5 t.at_ 0 _ _ 0 0 t.s _ none hlt (by decide) (HR.out _ (ar_end hx (hrd _ (r_args_stop HV.out)) HMV.out)) (HP10.out.below HB11.out) (HU10.out.trans (below_UB HB11.out))
  ·have HGO:=Hi (goes_no wr bp ba er v r' [44] hP9 (.inl he));have HP9:=Hi hP9;have HR9:=Hi hR9;have HE9:=Hi he;clear HJ hP9 hR9 he;go_wp2_with fail
   refine HGO.out.mono ?_;rintro e wa ⟨rfl,hba⟩;have hra:=hba.size;have HM:=Hi (must_dead wa bp ba er v r' [41] (HP9.out.below hba) HE9.out);have HPa:=Hi (HP9.out.below hba);have HUa:=Hi (HUr.out.trans (below_UB hba));have HXa:=Hi (HXr.out.below hba HXr.out.lt);have HBTa:=Hi (HBTr.out.below hba HBTr.out.lt);clear hba;go_wp2_with fail
   refine HM.out.mono ?_;rintro e w10 ⟨rfl,hb10⟩;have HP10:=Hi (HPa.out.below hb10);have HU10:=Hi (HUa.out.trans (below_UB hb10));have HX10:=Hi (HXa.out.below hb10 HXa.out.lt);have hbt:=HBTa.out.below hb10 HBTa.out.lt;obtain ⟨f0,f1,f2,y0,y1,y2⟩:=Blk.c3 hbt;have hbl10:=hbt.lt;clear hb10 hbt;go_wp2_with fail
   refine (node w10 5 t.at_ t.s _ _ _).mono ?_;rintro e w11 ⟨rfl,hb11⟩;have hx:=HX10.out.below hb11 HX10.out.lt;obtain ⟨⟨e0,e1,e2,e3,e4,e5⟩,z0,z1,z2,z3,z4,z5⟩:=Blk.c6 hx;have H1:=Hi hx;have HB11:=Hi hb11;clear hx hb11 f0 f1 f2 y0 y1 y2;go_wp2_with fail
   refine bodyPost_ret (resNd rfl rfl (Blk.put6 H1.out _ _ _ _ _ _) rfl) rfl ?_;exact q_bad 5 t.at_ 0 _ _ 0 0 t.s _ none hlt HE9.out (HR.out _ HR9.out) (HP10.out.below HB11.out) (HU10.out.trans (below_UB HB11.out))
end
end Go.Proofs.YtcgibpdjfgjldaaGreatDoor.Pq
