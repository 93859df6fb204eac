/- DERIVED. RqFo. By an AI agent. -/
import Derived.Test.YtcgibpdjfgjldaaGreatDoorQ01
import Derived.Test.YtcgibpdjfgjldaaGreatDoorQ19
import Derived.Test.YtcgibpdjfgjldaaGreatDoorQ22
set_option maxRecDepth 100000
set_option maxHeartbeats 8000000
set_option linter.unusedVariables false
set_option linter.unusedSimpArgs false
namespace Go.Proofs.YtcgibpdjfgjldaaGreatDoor.Pq
open Go Go.ChangeShapes Go.WideShapes Go.ChangeAt Go.RowKit Lx Args Pa
section
attribute [local go_sem] fTk0 fTk1 fTk2
def InQ(n:Nat):Prop:=∀ (w:World) (bp d:Nat) (l:List Tk),l.length≤n→QS w bp l 0 0→Gt l →
 Calls Tryz.prog 57 #[.pointer (some ⟨bp,0,none⟩),.int .i64 (d:Int)] w (OutQ w bp l (Rd numV .inner d l))
def FeK(a:Nat)(s:Bs):List Tr→List Tk→OO:=fun zs r=>some (.ok [.mk 11 a s 0 [] zs] r)
def IsK(d:Nat)(zs:List Tr)(G:List Tr→List Tk→OO)(f:Nat)(l:List Tk):OO:=bnd (pF numV f (.inners zs) d l) G
theorem ArrT.two{e:TypeId}{lo:Nat}{w1:World}{x y:Tr}{cs ds:List Value}(hx:TIn (fun b=>lo≤b) w1 x cs)(hy:TIn (fun b=>lo≤b) w1 y ds)(hlo:lo≤w1.heap.size):ArrT e lo (w1.alloc (.cells (cs ++ ds).toArray e)) w1.heap.size 2 [x,y]:=by
 refine ⟨[cs,ds],?_,?_⟩
 ·have:=own_full w1 hlo e 6 2 (cs ++ ds) (by rw [List.length_append,tIn_len hx,tIn_len hy]) (by decide);simpa using this
 ·have h1:=tsIn_one (hx.mono (N':=fun b=>lo≤b∧b≠w1.heap.size) fun b hb hs=>⟨hb,by omega⟩);have h2:=tsIn_one (hy.mono (N':=fun b=>lo≤b∧b≠w1.heap.size) fun b hb hs=>⟨hb,by omega⟩);exact (tsIn_app h1 h2).upd ((Upd.refl (fun _=>False) w1).alloc _) (fun _ _ h=>h)
def FqI(w:World)(bp d a n0:Nat)(s:Bs)(E:Out→Prop)(n g c:Nat)(W:World):Prop:=
 (∃ l zs,n=zs.length∧QS W bp l 0 0∧Gt l∧zs.length+l.length≤n0+2∧l.length≤n0∧ArrT 26 (w.heap.size+1) W g c zs∧∀ o,Ev (IsK d zs (FeK a s) · l) o→E o)∨(∃ ba er t r,er≠0∧E (.bad ba er)∧QS W bp (t :: r) ba er)
theorem is_end{d:Nat}{zs:List Tr}{v:Tk}{r:List Tk}(hv:isS [125] v=true)(a:Nat)(s:Bs):Ev (IsK d zs (FeK a s) · (v :: r)) (.ok [.mk 11 a s 0 [] zs] r):=ev_bnd (K:=fun _ zs r=>FeK a s zs r) (r_inners_end (num:=numV) hv) (ev_now _)
theorem is_go{d:Nat}{zs xs:List Tr}{v:Tk}{r r':List Tk}{a:Nat}{s:Bs}{o:Out}(hv:isS [125] v=false)(h:Rd numV .inner (d+1) (v :: r) (.ok xs r'))(h2:Ev (IsK d (zs ++ xs) (FeK a s) · r') o):Ev (IsK d zs (FeK a s) · (v :: r)) o:=by
 obtain ⟨g1,h1⟩:=h;obtain ⟨g2,h2⟩:=h2;refine ⟨max g1 g2+1,fun f hf=>?_⟩;obtain ⟨k,rfl⟩:∃ k,f=k+1:=⟨f - 1,by omega⟩;have e1:=h1 k (by omega);have e2:=h2 k (by omega);have e2':bnd (pF numV k (.inners (zs ++ xs)) d r') (FeK a s)=some o:=e2;show bnd (pF numV (k+1) (.inners zs) d (v :: r)) (FeK a s)=some o;have:pF numV (k+1) (.inners zs) d (v :: r)=bnd (pF numV k .inner (d+1) (v :: r)) fun xs r'=>pF numV k (.inners (zs ++ xs)) d r':=by
  conv=>lhs;unfold pF
  simp only;rw [if_neg (by rw [hv];decide)]
 rw [this];have e1':pF numV k .inner (d+1) (v :: r)=some (.ok xs r'):=e1;rw [e1'];exact e2'
theorem is_bad{d:Nat}{zs:List Tr}{v:Tk}{r:List Tk}{a b e:Nat}{s:Bs}(hv:isS [125] v=false)(h:Rd numV .inner (d+1) (v :: r) (.bad b e)):Ev (IsK d zs (FeK a s) · (v :: r)) (.bad b e):=ev_bad (K:=fun _ zs r=>FeK a s zs r) (r_inners_bad hv h)
theorem in_for{n:Nat}(H:InQ n)(w:World)(bp d:Nat)(t:Tk)(r:List Tk)(hn:r.length≤n)(hp:QS w bp (t :: r) 0 0)(hg:Gt (t :: r))(hd:d≤60)(hf:isS [102,111,114] t=true) :
  Calls Tryz.prog 57 #[.pointer (some ⟨bp,0,none⟩),.int .i64 (d:Int)] w (OutQ w bp (t :: r) (Rd numV .inner d (t :: r))):=by
 obtain ⟨i0,hi,hz⟩:=Option.map_eq_some_iff.1 infoNd;have hz0:=congrArg (·.1) hz;have hz1:=congrArg (·.2.1) hz;have hz2:=congrArg (·.2.2) hz;have HI:=Hi hi;have HZ0:=Hi hz0;have HZ1:=Hi hz1;have HZ2:=Hi hz2;clear hi hz hz0 hz1 hz2;obtain ⟨w0,hw0,hb0,hB⟩:=zero_box w;have hlt:=hp.lt;have hfw:=hg.few;simp only [List.length_cons] at hfw;have HT:=Hi (tok w0 bp 0 0 t r (hp.below hb0));have HP0:=Hi (hp.below hb0);have HGR:=Hi (hg.tail (is_k hf));have HNE:=Hi (gt_ne hg (is_k hf));have HB0:=Hi hb0;have HB:=Hi hB;have HW:=Hi hw0;have hbl:=hB.lt;have hdi:¬ (60:Int) < (d:Int):=by omega
 have HF:=Hi hf;clear hb0 hB hp hw0 hg hf;go_enter Tryz.func57,Tryz.ntmps57;go_wp2_with fail
 rw [HW.out];refine HT.out.mono ?_;rintro e w1 ⟨rfl,hb1⟩;have h01:=hb1.size;have HP1:=Hi (HP0.out.below hb1);have HU1:=Hi ((below_UB (bp:=bp) HB0.out).trans (below_UB hb1));have HX1:=Hi (HB.out.below hb1 HB.out.lt);clear hb1 HT HP0;go_wp2_with fail
 try rw [show decide ((60:Int) < (d:Int))=false from decide_eq_false (by omega)]
 refine (bad_no w1 bp 0 0 150 false t r HP1.out (.inl rfl)).mono ?_;rintro e w' ⟨rfl,rfl⟩;go_wp2_with fail
 refine (goes_yes w1 bp t r [102,111,114] HP1.out HF.out HNE.out).mono ?_;rintro e w3 ⟨rfl,hp3,hu3⟩;have HSC:Hid (SC w3 bp r.length (fun f l=>nameK l fun s r1=>must [105,110] r1 fun r2=>bnd (pF numV f (.lev 0) d r2) fun xs r3=>must [46,46] r3 fun r4=>bnd (pF numV f (.lev 0) d r4) fun ys r5=>must [123] r5 fun r6=>IsK d (xs ++ ys) (FeK t.at_ s) f r6) (Rd numV .inner d (t :: r))):=Hi (.inl ⟨r,hp3,HGR.out,Nat.le_refl _,fun o ho=>r_for hd HF.out ho⟩);have h13:=hu3.size;have HU3:=Hi (HU1.out.trans hu3);have HX3:=Hi (HX1.out.upd hu3 (show ¬ w.heap.size=bp by omega));clear hp3 hu3 HP1 HU1 HX1;go_wp2_with fail
 refine (name_u w3 bp _ _ _ HSC.out).mono ?_;rintro e w4 ⟨sn,rfl,hs4,hu4,_⟩;have h34:=hu4.size;have HS4:=Hi hs4;have HU4:=Hi (HU3.out.trans hu4);have HX4:=Hi (HX3.out.upd hu4 (show ¬ w.heap.size=bp by omega));clear hs4 hu4 HSC HU3 HX3;go_wp2_with fail
 refine (must_u w4 bp _ _ _ _ HS4.out).mono ?_;rintro e w5 ⟨rfl,hs5,hu5,_⟩;have h45:=hu5.size;have HS5:=Hi hs5;have HU5:=Hi (HU4.out.trans hu5);have HX5:=Hi (HX4.out.upd hu5 (show ¬ w.heap.size=bp by omega));clear hs5 hu5 HS4 HU4 HX4;go_wp2_with fail
 refine (ex_u w5 bp _ d (fun xs f r3=>must [46,46] r3 fun r4=>bnd (pF numV f (.lev 0) d r4) fun ys r5=>must [123] r5 fun r6=>IsK d (xs ++ ys) (FeK t.at_ sn) f r6) _ HS5.out).mono ?_;rintro e w6 ⟨k,a,s,m,A,la,cA,B,lb,cB,x,rfl,hT,hS,hU,_⟩;obtain ⟨w7,hw7⟩:∃ w7,w6.alloc (.cells #[.int .i64 (k:Int),.string ⟨s.toArray⟩,.int .u32 (m:Int),.int .i64 (a:Int),.slice A la cA,.slice B lb cB] 26)=w7:=⟨_,rfl⟩;have hb7:Below w6.heap.size w6 w7:=by rw [←hw7];exact (Below.refl _ _).alloc (Nat.le_refl _) _
 have hbn:Blk w7 w6.heap.size 26 #[.int .i64 (k:Int),.string ⟨s.toArray⟩,.int .u32 (m:Int),.int .i64 (a:Int),.slice A la cA,.slice B lb cB]:=by rw [←hw7];exact Blk.new _ _ _
 have h56:=hU.size;have h67:=hbn.lt;have HT7:Hid (whyQ w7 bp = 0→TIn (fun b=>w.heap.size+1≤b) w7 x (ndC k a s m A la cA B lb cB)):=Hi fun hq=>(tup (hT ((hS.stay hb7).back hq)) (show w.heap.size+1≤w5.heap.size by omega)).upd (Upd.of_below hb7 fun _=>False) (fun _ _ h=>h)
 have HS7:=Hi (hS.below hb7);have HU7:=Hi ((HU5.out.trans hU).trans (below_UB hb7));have HX7:=Hi ((HX5.out.upd hU (show ¬ w.heap.size=bp by omega)).below hb7 (by omega));have HW7:=Hi hw7;have HBN:=Hi hbn;clear hT hS hU hb7 hw7 hbn HS5 HU5 HX5;go_wp2_with fail
 rw [HW7.out];refine (must_u w7 bp _ _ _ _ HS7.out).mono ?_;rintro e w8 ⟨rfl,hs8,hu8,hst8⟩;have h78:=hu8.size;have HT8:Hid (whyQ w8 bp = 0→TIn (fun b=>w.heap.size+1≤b) w8 x (ndC k a s m A la cA B lb cB)):=Hi fun hq=>(HT7.out (hst8.back hq)).upd hu8 fun b hb e=>by omega
 have HS8:=Hi hs8;have HU8:=Hi (HU7.out.trans hu8);have HX8:=Hi (HX7.out.upd hu8 (show ¬ w.heap.size=bp by omega));have HBN8:=Hi (HBN.out.upd hu8 (show ¬ w6.heap.size=bp by omega));clear hs8 hu8 hst8 HS7 HU7 HX7 HT7 HBN HW7;go_wp2_with fail
 refine (ex_u w8 bp _ d (fun ys f r5=>must [123] r5 fun r6=>IsK d ([x] ++ ys) (FeK t.at_ sn) f r6) _ HS8.out).mono ?_;rintro e w9 ⟨k2,a2,s2,m2,A2,la2,cA2,B2,lb2,cB2,y,rfl,hT,hS,hU,hst9⟩;obtain ⟨wa,hwa⟩:∃ wa,w9.alloc (.cells #[.int .i64 (k2:Int),.string ⟨s2.toArray⟩,.int .u32 (m2:Int),.int .i64 (a2:Int),.slice A2 la2 cA2,.slice B2 lb2 cB2] 26)=wa:=⟨_,rfl⟩;have hba:Below w9.heap.size w9 wa:=by rw [←hwa];exact (Below.refl _ _).alloc (Nat.le_refl _) _
 have hbn:Blk wa w9.heap.size 26 #[.int .i64 (k2:Int),.string ⟨s2.toArray⟩,.int .u32 (m2:Int),.int .i64 (a2:Int),.slice A2 la2 cA2,.slice B2 lb2 cB2]:=by rw [←hwa];exact Blk.new _ _ _
 have h89:=hU.size;have h9a:=hbn.lt;have HTx:Hid (whyQ wa bp = 0→TIn (fun b=>w.heap.size+1≤b) wa x (ndC k a s m A la cA B lb cB)):=Hi fun hq=>((HT8.out (hst9.back ((hS.stay hba).back hq))).upd hU fun b hb e=>by omega).upd (Upd.of_below hba fun _=>False) (fun _ _ h=>h)
 have HTy:Hid (whyQ wa bp = 0→TIn (fun b=>w.heap.size+1≤b) wa y (ndC k2 a2 s2 m2 A2 la2 cA2 B2 lb2 cB2)):=Hi fun hq=>(tup (hT ((hS.stay hba).back hq)) (show w.heap.size+1≤w8.heap.size by omega)).upd (Upd.of_below hba fun _=>False) (fun _ _ h=>h)
 have HSa:=Hi (hS.below hba);have HUa:=Hi ((HU8.out.trans hU).trans (below_UB hba));have HXa:=Hi ((HX8.out.upd hU (show ¬ w.heap.size=bp by omega)).below hba (by omega));have HWa:=Hi hwa;have HBNy:=Hi hbn;have HBNx:=Hi ((HBN8.out.upd hU (show ¬ w6.heap.size=bp by omega)).below hba (by omega));clear hT hS hU hba hwa hbn hst9 HS8 HU8 HX8 HT8 HBN8;go_wp2_with fail
 rw [HWa.out];refine (must_u wa bp _ _ _ _ HSa.out).mono ?_;rintro e wb ⟨rfl,hsb,hub,hstb⟩;have hab:=hub.size;have hnx:=HBNx.out.upd hub (show ¬ w6.heap.size=bp by omega);have hny:=HBNy.out.upd hub (show ¬ w9.heap.size=bp by omega);obtain ⟨⟨g0,g1,g2,g3,g4,g5⟩,x0,x1,x2,x3,x4,x5⟩:=Blk.c6 hnx;obtain ⟨⟨j0,j1,j2,j3,j4,j5⟩,y0,y1,y2,y3,y4,y5⟩:=Blk.c6 hny;have hnxl:=hnx.lt;have hnyl:=hny.lt;have HTx2:Hid (whyQ wb bp = 0→TIn (fun b=>w.heap.size+1≤b) wb x (ndC k a s m A la cA B lb cB)):=Hi fun hq=>(HTx.out (hstb.back hq)).upd hub fun b hb e=>by omega
 have HTy2:Hid (whyQ wb bp = 0→TIn (fun b=>w.heap.size+1≤b) wb y (ndC k2 a2 s2 m2 A2 la2 cA2 B2 lb2 cB2)):=Hi fun hq=>(HTy.out (hstb.back hq)).upd hub fun b hb e=>by omega
 have HSb:=Hi hsb;have HUb:=Hi (HUa.out.trans hub);have HXb:=Hi (HXa.out.upd hub (show ¬ w.heap.size=bp by omega));clear hsb hub hstb hnx hny HTx HTy HSa HUa HXa HWa HBNx HBNy;obtain ⟨wc,hwc⟩:∃ wc,wb.alloc (.cells #[.int .i64 (k:Int),.string ⟨s.toArray⟩,.int .u32 (m:Int),.int .i64 (a:Int),.slice A la cA,.slice B lb cB,.int .i64 (k2:Int),.string ⟨s2.toArray⟩,.int .u32 (m2:Int),.int .i64 (a2:Int),.slice A2 la2 cA2,.slice B2 lb2 cB2] 26)=wc:=⟨_,rfl⟩;have hbc:Below wb.heap.size wb wc:=by rw [←hwc];exact (Below.refl _ _).alloc (Nat.le_refl _) _
 have HJ:Hid (FqI w bp d t.at_ r.length sn (Rd numV .inner d (t :: r)) 2 wb.heap.size 2 wc):=Hi (by
  rcases HSb.out with ⟨l8,hq8,hg8,hl8,hE8⟩ | ⟨ba,er,t8,r8,he8,hE8,hq8⟩
  ·refine .inl ⟨l8,[x,y],rfl,hq8.below hbc,hg8,by simp;omega,by omega,?_,hE8⟩;have hw0:=whyQ_live hq8;have:=ArrT.two (e:=26) (HTx2.out hw0) (HTy2.out hw0) (by omega)
   rwa [show wb.alloc (.cells ((ndC k a s m A la cA B lb cB) ++ (ndC k2 a2 s2 m2 A2 la2 cA2 B2 lb2 cB2)).toArray 26)=wc from hwc] at this
  ·exact .inr ⟨ba,er,t8,r8,he8,hE8,hq8.below hbc⟩)
 have HUc:=Hi (HUb.out.trans (below_UB hbc));have HXc:=Hi (HXb.out.below hbc HXb.out.lt);have HWC:=Hi hwc;clear hbc hwc HTx2 HTy2 HSb HUb HXb;go_wp2_with fail
 rw [HWC.out];clear g0 g1 g2 g3 g4 g5 x0 x1 x2 x3 x4 x5 j0 j1 j2 j3 j4 j5 y0 y1 y2 y3 y4 y5
 go_loopw [9] (fun vl wr=>∃ n' g c,vl = .slice (some ⟨g,0,none⟩) n' c∧Hid (FqI w bp d t.at_ r.length sn (Rd numV .inner d (t :: r)) n' g c wr)∧Hid (UB bp w wr)∧Hid (Blk wr w.heap.size 26 zNd)) (fun _ wr=>meQ wr bp)
 case atStart=>exact ⟨2,_,2,rfl,HJ,HUc,HXc⟩
 case round=>
  clear HJ HUc HXc HWC;obtain ⟨n',g,c,rfl,HJ,HUr,HXr⟩:=hrel;have hxl:=HXr.out.lt;rcases HJ.out with ⟨l,zs,rfl,hql,hgl,hfl,hll,hAr,hEl⟩ | ⟨ba,er,v,r',he,hR9,hP9⟩
  ·obtain ⟨v,r',rfl⟩:=hgl.cons;obtain ⟨b',o',c',n',hnn,hln,hcc,hmm,⟨c0,c1,c2,c3⟩,⟨z0,z1,z2,z3⟩,f4,f5,f6⟩:=hql.head;have hbpl:=hql.lt;have HQL:=Hi hql;have HGL:=Hi hgl;have HAR:=Hi hAr;have HEL:=Hi hEl;simp only [List.length_cons] at hfl hll;clear hql hgl hAr hEl HJ hnn hln hcc hmm c0 c1 c2 z0 z1 z2 z3 f4 f5 f6;by_cases hv:isS [125] v=true
   ·have HV:=Hi hv;have HGV:=Hi (HGL.out.tail (is_k hv));have HGO:=Hi (goes_yes wr bp v r' [125] HQL.out hv (gt_ne HGL.out (is_k hv)));clear hv;go_wp2_with fail
    refine HGO.out.mono ?_;rintro e wa ⟨rfl,hpa,hua⟩;have HPa:=Hi hpa;have HUa:=Hi (HUr.out.trans hua);have HXa:=Hi (HXr.out.upd hua (by omega));have HAa:=Hi (HAR.out.upd hua fun b hb=>by omega);clear hpa hua HGO c3;go_wp2_with fail
    refine (node wa 11 t.at_ sn _ _ _).mono ?_;rintro e wd ⟨rfl,hbd⟩;have hx:=HXa.out.below hbd HXa.out.lt;obtain ⟨⟨e0,e1,e2,e3,e4,e5⟩,z0,z1,z2,z3,z4,z5⟩:=Blk.c6 hx;have H1:=Hi hx;have HBD:=Hi hbd;clear hx hbd;go_wp2_with fail
    refine bodyPost_ret (resNd rfl rfl (Blk.put6 H1.out _ _ _ _ _ _) rfl) rfl ?_;have hN:=(HAa.out.upd (Upd.of_below HBD.out fun _=>False) (fun _ h=>h.elim)).node (by omega) 11 t.at_ 0 sn;exact q_ok (lo:=w.heap.size+1) hlt (Nat.lt_succ_self _) hN (HEL.out _ (is_end HV.out _ _)) (HPa.out.below HBD.out) HGV.out (by simp only [List.length_cons];omega) (HUa.out.trans (below_UB HBD.out))
   ·have hv':isS [125] v=false:=by simpa using hv
    have HV:=Hi hv';have HGO:=Hi (goes_no wr bp 0 0 v r' [125] HQL.out (.inr hv'));clear hv hv';go_wp2_with fail
    refine HGO.out.mono ?_;rintro e wa ⟨rfl,hba⟩;have hra:=hba.size;have HI1:=Hi (H wa bp (d+1) (v :: r') (by simp only [List.length_cons];omega) (HQL.out.below hba) HGL.out);have HBA:=Hi hba;clear hba HGO c3;go_wp2_with fail
    refine HI1.out.mono ?_;rintro e wd ⟨k',a',s',m',A',la',cA',B',lb',cB',rfl,hU,hO⟩;obtain ⟨we,hwe⟩:∃ we,wd.alloc (.cells #[.int .i64 (k':Int),.string ⟨s'.toArray⟩,.int .u32 (m':Int),.int .i64 (a':Int),.slice A' la' cA',.slice B' lb' cB'] 26)=we:=⟨_,rfl⟩;have hbe:Below wd.heap.size wd we:=by rw [←hwe];exact (Below.refl _ _).alloc (Nat.le_refl _) _
    have hse:we.heap.size=wd.heap.size+1:=by rw [←hwe];simp
    have hsd:=hU.size;have hure:UB bp wr we:=((below_UB HBA.out).trans hU).trans (below_UB hbe);obtain ⟨css,how,hts⟩:=HAR.out;have hgg:=own_at how;have HOA:=Hi (World.ownsRow.alloc (own_upd3 how hure (by omega)) (.cells #[.int .i64 (k':Int),.string ⟨s'.toArray⟩,.int .u32 (m':Int),.int .i64 (a':Int),.slice A' la' cA',.slice B' lb' cB'] 26));have HLI:=Hi (lies_full we 26 (ndC k' a' s' m' A' la' cA' B' lb' cB'));have HBS:=Hi (show w.heap.size+1≤(we.alloc (.cells #[.int .i64 (k':Int),.string ⟨s'.toArray⟩,.int .u32 (m':Int),.int .i64 (a':Int),.slice A' la' cA',.slice B' lb' cB'] 26)).heap.size by simp;omega);have HOW:=Hi how;have HTS:=Hi hts;have HURE:=Hi hure;have HO:=Hi hO;have HBE:=Hi hbe;have HWE:=Hi hwe;have HSE:=Hi hse;have HXe:=Hi (HXr.out.upd hure (show ¬ w.heap.size=bp by omega));have HUe:=Hi (HUr.out.trans hure);clear how hts hure hU hO hbe hwe;rw [hse] at HLI;go_wp2_with (at_builtin;rw [HWE.out];refine wpList_where rfl _ _ 23 rfl (w.heap.size+1) 26 i0 (.agg zNd) 6 88 Tryz.underlying23 HI.out HZ0.out HZ1.out HZ2.out rfl (by decide) _ zs.length _ rfl HOA.out ⟨wd.heap.size+1,0,none⟩ 1 1 (ndC k' a' s' m' A' la' cA' B' lb' cB') rfl rfl HLI.out (by simp [ndC,Value.oneCell']) (by unfold maxLen;omega) (by omega) HBS.out (by decide) ?_;intro g8 c8 w8' hE;have HE8:=Hi hE;clear hE)
    have hu8:Upd (fun b=>b=g) we w8':=((Upd.refl (fun b=>b=g) we).alloc _).grown HE8.out.grown fun k hk _=>by cases hk;rfl
    have hU8:UB bp w w8':=(HUe.out.alloc _).grown HE8.out.grown fun k hk hs=>by
     cases hk;exact absurd hs (by show ¬ g < w.heap.size;omega)
    have hJ8:FqI w bp d t.at_ r.length sn (Rd numV .inner d (t :: r)) (zs.length+1) g8 c8 w8'∧meQ w8' bp < meQ wr bp:=by
     have hmr:=HQL.out.me;simp only [List.length_cons] at hmr;rcases HO.out with ⟨y2,r5,hT,hR,hP,hG,hr⟩ | ⟨ba,er,t5,r5,he,hR,hP⟩
     ·have hTe:TIn (fun b=>wr.heap.size≤b) we y2 (ndC k' a' s' m' A' la' cA' B' lb' cB'):=(tup hT (show wr.heap.size≤wa.heap.size by omega)).upd (Upd.of_below HBE.out fun _=>False) (fun _ _ h=>h);have hst:=arr_step HOW.out HTS.out (by omega) HURE.out hTe HE8.out;have hq8:=(hP.below HBE.out).far hu8 fun b hb=>by omega
      simp only [List.length_cons] at hr;refine ⟨.inl ⟨r5,zs ++ [y2],by simp,hq8,hG,by simp;omega,by omega,hst.1,fun o h=>HEL.out o (is_go HV.out hR h)⟩,?_⟩;have:=hq8.me;omega
     ·have hq8:=(hP.below HBE.out).far hu8 fun b hb=>by omega
      refine ⟨.inr ⟨ba,er,t5,r5,he,HEL.out _ (is_bad HV.out hR),hq8⟩,?_⟩;have:=hq8.me0 he;omega
    have HX8:=Hi (HXe.out.upd hu8 (show ¬ w.heap.size=g by omega));have HU8:=Hi hU8;have HJ8:=Hi hJ8;clear hu8 hU8 hJ8
    go_roundw
    case rel=>exact ⟨zs.length+1,g8,c8,rfl,Hi HJ8.out.1,HU8,HX8⟩
    case measure=>exact HJ8.out.2
  ·obtain ⟨b',o',c',n'',hnn,hln,hcc,hmm,⟨c0,c1,c2,c3⟩,⟨z0,z1,z2,z3⟩,f4,f5,f6⟩:=hP9.head;have hbpl:=hP9.lt;have hwy:((er:Int)==0)=false:=by simp;omega
   have HP9:=Hi hP9;have HR9:=Hi hR9;have HE9:=Hi he;clear HJ hP9 hR9 he hnn hln hcc hmm c0 c1 c2 z0 z1 z2 z3 f4 f5 f6;go_wp2_with fail
   clear c3;refine (node wr 11 t.at_ sn _ _ _).mono ?_;rintro e wd ⟨rfl,hbd⟩;have hx:=HXr.out.below hbd HXr.out.lt;obtain ⟨⟨e0,e1,e2,e3,e4,e5⟩,z0,z1,z2,z3,z4,z5⟩:=Blk.c6 hx;have H1:=Hi hx;have HBD:=Hi hbd;clear hx hbd;go_wp2_with fail
   refine bodyPost_ret (resNd rfl rfl (Blk.put6 H1.out _ _ _ _ _ _) rfl) rfl ?_;exact q_bad 11 t.at_ 0 _ _ 0 0 sn _ none hlt HE9.out HR9.out (HP9.out.below HBD.out) (HUr.out.trans (below_UB HBD.out))
theorem inq:∀ n,InQ n
 | 0=>fun w bp d l hl _ hg=>by
  obtain ⟨t,r,rfl⟩:=hg.cons;simp at hl
 | n+1=>fun w bp d l hl hp hg=>by
  obtain ⟨t,r,rfl⟩:=hg.cons;simp only [List.length_cons] at hl;by_cases hd:60 < d
  ·exact in_letD w bp d t r hp hg hd
  ·cases ht:isS [102,111,114] t
   ·exact in_let w bp d t r hp hg (by omega) ht
   ·exact in_for (inq n) w bp d t r (by omega) hp hg (by omega) ht
end
end Go.Proofs.YtcgibpdjfgjldaaGreatDoor.Pq
