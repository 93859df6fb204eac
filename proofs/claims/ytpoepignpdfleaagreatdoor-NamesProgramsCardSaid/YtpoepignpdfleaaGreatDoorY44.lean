/- DERIVED. RqSs, RqDo. By an AI agent. -/
import Derived.Test.YtpoepignpdfleaaGreatDoorY01
import Derived.Test.YtpoepignpdfleaaGreatDoorY43
import Derived.Test.YtpoepignpdfleaaGreatDoorY26
import Derived.StillTailTactics
set_option maxRecDepth 100000
set_option maxHeartbeats 4000000
namespace Go.Proofs.YtpoepignpdfleaaGreatDoor.Pq
open Go Go.ChangeShapes Go.WideShapes Go.ChangeAt Go.RowKit Lx Args Pa
set_option linter.unusedVariables false
set_option linter.unusedSimpArgs false
section
attribute [local go_sem] fTk0 fTk1 fTk2
theorem tIn_names{lo g c:Nat}{w:World}{ps:List Bs}(hL:Lies w (some ⟨g,0,none⟩) (ps.map strV))(hg:lo≤g)(hl:CapOk ps.length c)(k a:Nat):TIn (fun b=>lo≤b) w (.mk k a [] 0 ps []) (ndC k a [] 0 none 0 0 (some ⟨g,0,none⟩) ps.length c):=by
 unfold TIn
 exact ⟨none,0,some ⟨g,0,none⟩,c,rfl,⟨by simp,by simp,by decide⟩,hl,hL,fun b o e _=>by cases e;exact hg,[],Lies.nil _ _,fun b o e=>(by cases e),by unfold TsIn;rfl⟩
theorem nodeP{e:TypeId}{lo:Nat}{w:World}{g c gp cp:Nat}{xs:List Tr}{ps:List Bs}(h:ArrT e lo w g c xs)(hl:xs.length≤100000)(hL:Lies w (some ⟨gp,0,none⟩) (ps.map strV))(hg:lo≤gp)(hp:CapOk ps.length cp)(k a n:Nat)(s:Bs) :
  TIn (fun b=>lo≤b) w (.mk k a s n ps xs) (ndC k a s n (some ⟨g,0,none⟩) xs.length c (some ⟨gp,0,none⟩) ps.length cp):=by
 obtain ⟨css,h1,h2⟩:=h
 unfold TIn
 refine ⟨_,_,_,_,rfl,own_cap h1 hl,hp,hL,fun b o e _=>by cases e;exact hg,css,?_,fun b o e _=>?_,h2.mono fun b hb _=>hb.1⟩
 ·rcases h1.2 with ⟨h,_⟩ | ⟨g',cap,cur,h,_⟩
  ·cases h
  ·exact fun j u hj=>⟨_,rfl,h1.cells (g:=g) rfl j u hj⟩
 ·cases e;exact (own_at h1).1
theorem st_name{k a:Nat}{t:Tk}{r:List Tk}{o:Out}(h:∀ f,pF numV (f+1) .stmt 0 (t :: r)=InK k a r)(ho:Ev (fun f=>NmK [] (fun ps _ r1=>must [59] r1 fun r2=>some (.ok [.mk k a [] 0 ps []] r2)) f r) o):Rd numV .stmt 0 (t :: r) o:=rd_eq ho h
theorem st_set{k a:Nat}{t:Tk}{r:List Tk}{o:Out}(h:∀ f,pF numV (f+1) .stmt 0 (t :: r)=SetK numV f k a 0 r)(ho:Ev (fun f=>nameK r fun s r1=>must [61] r1 fun r2=>FinK f k a s [] 0 r2) o):Rd numV .stmt 0 (t :: r) o:=rd_eq (ev_up ho fun f=>set_fin f k a 0 r) h
theorem put6_alloc(w:World)(g:Nat)(o:Obj)(a b c d e f:Value)(h:g < w.heap.size):(put6 w g a b c d e f).alloc o=put6 (w.alloc o) g a b c d e f:=by
 have hs:∀ (w:World) (p:Addr) (v:Value),(w.setCell p v).heap.size=w.heap.size:=fun w p v=>by simp [World.setCell]
 unfold put6
 rw [World.setCell_alloc_past _ _ _ _ h,World.setCell_alloc_past _ _ _ _ (by simp only [hs];exact h),World.setCell_alloc_past _ _ _ _ (by simp only [hs];exact h),World.setCell_alloc_past _ _ _ _ (by simp only [hs];exact h),World.setCell_alloc_past _ _ _ _ (by simp only [hs];exact h),World.setCell_alloc_past _ _ _ _ (by simp only [hs];exact h)]
def FnQ(f a:Nat)(r:List Tk):OO:=nameK r fun s r1=>must [40] r1 fun r2=>NmK [] (fun ps f r3=>must [41] r3 fun r4=>must [61] r4 fun r5=>FinK f 12 a s ps 0 r5) f r2
theorem st_fn{a:Nat}{t:Tk}{r:List Tk}{o:Out}(h:∀ f,pF numV (f+1) .stmt 0 (t :: r)=FnK numV f a 0 r)(ho:Ev (fun f=>FnQ f a r) o):Rd numV .stmt 0 (t :: r) o:=rd_eq (ev_up (K':=fun f=>FnK numV f a 0 r) ho fun f=>rfl) h
theorem st_secret(w:World)(bp:Nat)(t:Tk)(r:List Tk)(hp:QS w bp (t :: r) 0 0)(hg:Gt (t :: r))(y:isS [115,101,99,114,101,116] t=true) :
  Calls Tryz.prog 32 #[.pointer (some ⟨bp,0,none⟩)] w (OutQ w bp (t :: r) (Rd numV .stmt 0 (t :: r))):=by
 have HR:=Hi fun (o:Out)=>st_name (k:=6) (a:=t.at_) (t:=t) (r:=r) (o:=o) fun f=>by rw [st_,if_pos y]
 obtain ⟨w0,hw0,hb0,hB⟩:=zero_box w
 have hlt:=hp.lt
 have hfw:=hg.few
 simp only [List.length_cons] at hfw
 have HT:=Hi (tok w0 bp 0 0 t r (hp.below hb0))
 have HP0:=Hi (hp.below hb0)
 have HGR:=Hi (hg.tail (is_k y));have HNE:=Hi (gt_ne hg (is_k y));have HY:=Hi y
 have HB0:=Hi hb0;have HB:=Hi hB;have HW:=Hi hw0
 have hbl:=hB.lt
 clear hb0 hB hp hw0 hg y
 go_enter Tryz.func32,Tryz.ntmps32
 go_wp2_with fail
 rw [HW.out]
 refine HT.out.mono ?_
 rintro e w1 ⟨rfl,hb1⟩
 have h01:=hb1.size
 have HP1:=Hi (HP0.out.below hb1);have HU1:=Hi ((below_UB (bp:=bp) HB0.out).trans (below_UB hb1));have HX1:=Hi (HB.out.below hb1 HB.out.lt)
 clear hb1 HT HP0
 go_wp2_with fail
 refine (goes_yes w1 bp t r [115,101,99,114,101,116] HP1.out HY.out HNE.out).mono ?_
 rintro e wa ⟨rfl,hpa,hua⟩
 have HSa:Hid (SC wa bp r.length (NmK [] fun ps _ r1=>must [59] r1 fun r2=>some (.ok [.mk 6 t.at_ [] 0 ps []] r2)) (Rd numV .stmt 0 (t :: r))):=Hi (.inl ⟨r,hpa,HGR.out,Nat.le_refl _,fun o ho=>HR.out o ho⟩)
 have h1a:=hua.size
 have HUa:=Hi (HU1.out.trans hua);have HXa:=Hi (HX1.out.upd hua (show ¬ w.heap.size=bp by omega))
 clear hpa hua HP1 HU1 HX1
 go_wp2_with fail
 refine (names_u wa bp r.length (by omega) _ _ HSa.out).mono ?_
 rintro e wb ⟨ps,gp,cp,rfl,hLb,hgb,hplen,hsb,hub,hstb⟩
 have hab:=hub.size
 have HSb:=Hi hsb;have HLb:=Hi hLb;have HUb:=Hi (HUa.out.trans hub);have HXb:=Hi (HXa.out.upd hub (show ¬ w.heap.size=bp by omega))
 clear hsb hub hstb hLb HSa HUa HXa
 go_wp2_with fail
 refine (must_u wb bp _ _ (fun _ r2=>some (.ok [.mk 6 t.at_ [] 0 ps []] r2)) _ HSb.out).mono ?_
 rintro e wc ⟨rfl,hsc,huc,hstc⟩
 have hbc:=huc.size
 have hx:=HXb.out.upd huc (show ¬ w.heap.size=bp by omega)
 obtain ⟨⟨e0,e1,e2,e3,e4,e5⟩,z0,z1,z2,z3,z4,z5⟩:=Blk.c6 hx
 have hxl:=hx.lt
 have HSc:=Hi hsc;have HUc:=Hi (HUb.out.trans huc);have HXc:=Hi hx;have HLc:=Hi (huc.lies HLb.out fun b o e _ hx=>by cases e;omega)
 clear hsc huc hstc hx HSb HUb HXb HLb
 go_wp2_with fail
 refine bodyPost_ret (resNd rfl rfl (Blk.put6 HXc.out _ _ _ _ _ _) rfl) rfl ?_
 rcases HSc.out with ⟨l8,hq8,hg8,hl8,hE8⟩ | ⟨ba,er,t8,r8,he8,hE8,hq8⟩
 ·exact q_ok (lo:=w.heap.size+1) (s:=[]) hlt (Nat.lt_succ_self _) (tIn_names (lo:=w.heap.size+1) HLc.out (by omega) ⟨by omega,by omega,by omega⟩ 6 t.at_) (hE8 _ (ev_now _)) hq8 hg8 (by simp only [List.length_cons];omega) HUc.out
 ·exact q_bad 6 t.at_ 0 0 0 _ _ [] none _ hlt he8 hE8 hq8 HUc.out
theorem st_public(w:World)(bp:Nat)(t:Tk)(r:List Tk)(hp:QS w bp (t :: r) 0 0)(hg:Gt (t :: r))(n0:isS [115,101,99,114,101,116] t=false)(y:isS [112,117,98,108,105,99] t=true) :
  Calls Tryz.prog 32 #[.pointer (some ⟨bp,0,none⟩)] w (OutQ w bp (t :: r) (Rd numV .stmt 0 (t :: r))):=by
 have HR:=Hi fun (o:Out)=>st_name (k:=7) (a:=t.at_) (t:=t) (r:=r) (o:=o) fun f=>by rw [st_,if_neg (by rw [n0];decide),if_pos y]
 obtain ⟨w0,hw0,hb0,hB⟩:=zero_box w
 have hlt:=hp.lt
 have hfw:=hg.few
 simp only [List.length_cons] at hfw
 have HT:=Hi (tok w0 bp 0 0 t r (hp.below hb0))
 have HP0:=Hi (hp.below hb0)
 have HGR:=Hi (hg.tail (is_k y));have HNE:=Hi (gt_ne hg (is_k y));have HY:=Hi y
 have N0:=Hi n0
 have HB0:=Hi hb0;have HB:=Hi hB;have HW:=Hi hw0
 have hbl:=hB.lt
 clear hb0 hB hp hw0 hg y n0
 go_enter Tryz.func32,Tryz.ntmps32
 go_wp2_with fail
 rw [HW.out]
 refine HT.out.mono ?_
 rintro e w1 ⟨rfl,hb1⟩
 have h01:=hb1.size
 have HP1:=Hi (HP0.out.below hb1);have HU1:=Hi ((below_UB (bp:=bp) HB0.out).trans (below_UB hb1));have HX1:=Hi (HB.out.below hb1 HB.out.lt)
 clear hb1 HT HP0
 go_wp2_with fail
 refine (goes_no w1 bp 0 0 t r [115,101,99,114,101,116] HP1.out (.inr N0.out)).mono ?_
 rintro e w2 ⟨rfl,hb2⟩
 have h12:=hb2.size
 have HP2:=Hi (HP1.out.below hb2);have HU2:=Hi (HU1.out.trans (below_UB hb2));have HX2:=Hi (HX1.out.below hb2 HX1.out.lt)
 clear hb2 HP1 HU1 HX1
 go_wp2_with fail
 refine (goes_yes w2 bp t r [112,117,98,108,105,99] HP2.out HY.out HNE.out).mono ?_
 rintro e wa ⟨rfl,hpa,hua⟩
 have HSa:Hid (SC wa bp r.length (NmK [] fun ps _ r1=>must [59] r1 fun r2=>some (.ok [.mk 7 t.at_ [] 0 ps []] r2)) (Rd numV .stmt 0 (t :: r))):=Hi (.inl ⟨r,hpa,HGR.out,Nat.le_refl _,fun o ho=>HR.out o ho⟩)
 have h1a:=hua.size
 have HUa:=Hi (HU2.out.trans hua);have HXa:=Hi (HX2.out.upd hua (show ¬ w.heap.size=bp by omega))
 clear hpa hua HP2 HU2 HX2
 go_wp2_with fail
 refine (names_u wa bp r.length (by omega) _ _ HSa.out).mono ?_
 rintro e wb ⟨ps,gp,cp,rfl,hLb,hgb,hplen,hsb,hub,hstb⟩
 have hab:=hub.size
 have HSb:=Hi hsb;have HLb:=Hi hLb;have HUb:=Hi (HUa.out.trans hub);have HXb:=Hi (HXa.out.upd hub (show ¬ w.heap.size=bp by omega))
 clear hsb hub hstb hLb HSa HUa HXa
 go_wp2_with fail
 refine (must_u wb bp _ _ (fun _ r2=>some (.ok [.mk 7 t.at_ [] 0 ps []] r2)) _ HSb.out).mono ?_
 rintro e wc ⟨rfl,hsc,huc,hstc⟩
 have hbc:=huc.size
 have hx:=HXb.out.upd huc (show ¬ w.heap.size=bp by omega)
 obtain ⟨⟨e0,e1,e2,e3,e4,e5⟩,z0,z1,z2,z3,z4,z5⟩:=Blk.c6 hx
 have hxl:=hx.lt
 have HSc:=Hi hsc;have HUc:=Hi (HUb.out.trans huc);have HXc:=Hi hx;have HLc:=Hi (huc.lies HLb.out fun b o e _ hx=>by cases e;omega)
 clear hsc huc hstc hx HSb HUb HXb HLb
 go_wp2_with fail
 refine bodyPost_ret (resNd rfl rfl (Blk.put6 HXc.out _ _ _ _ _ _) rfl) rfl ?_
 rcases HSc.out with ⟨l8,hq8,hg8,hl8,hE8⟩ | ⟨ba,er,t8,r8,he8,hE8,hq8⟩
 ·exact q_ok (lo:=w.heap.size+1) (s:=[]) hlt (Nat.lt_succ_self _) (tIn_names (lo:=w.heap.size+1) HLc.out (by omega) ⟨by omega,by omega,by omega⟩ 7 t.at_) (hE8 _ (ev_now _)) hq8 hg8 (by simp only [List.length_cons];omega) HUc.out
 ·exact q_bad 7 t.at_ 0 0 0 _ _ [] none _ hlt he8 hE8 hq8 HUc.out
theorem st_out(w:World)(bp:Nat)(t:Tk)(r:List Tk)(hp:QS w bp (t :: r) 0 0)(hg:Gt (t :: r))(n0:isS [115,101,99,114,101,116] t=false)(n1:isS [112,117,98,108,105,99] t=false)(y:isS [111,117,116] t=true) :
  Calls Tryz.prog 32 #[.pointer (some ⟨bp,0,none⟩)] w (OutQ w bp (t :: r) (Rd numV .stmt 0 (t :: r))):=by
 have HR:=Hi fun (o:Out)=>st_set (k:=8) (a:=t.at_) (t:=t) (r:=r) (o:=o) fun f=>by rw [st_,if_neg (by rw [n0];decide),if_neg (by rw [n1];decide),if_pos y]
 obtain ⟨w0,hw0,hb0,hB⟩:=zero_box w
 have hlt:=hp.lt
 have hfw:=hg.few
 simp only [List.length_cons] at hfw
 have HT:=Hi (tok w0 bp 0 0 t r (hp.below hb0))
 have HP0:=Hi (hp.below hb0)
 have HGR:=Hi (hg.tail (is_k y));have HNE:=Hi (gt_ne hg (is_k y));have HY:=Hi y
 have N0:=Hi n0
 have N1:=Hi n1
 have HB0:=Hi hb0;have HB:=Hi hB;have HW:=Hi hw0
 have hbl:=hB.lt
 clear hb0 hB hp hw0 hg y n0 n1
 go_enter Tryz.func32,Tryz.ntmps32
 go_wp2_with fail
 rw [HW.out]
 refine HT.out.mono ?_
 rintro e w1 ⟨rfl,hb1⟩
 have h01:=hb1.size
 have HP1:=Hi (HP0.out.below hb1);have HU1:=Hi ((below_UB (bp:=bp) HB0.out).trans (below_UB hb1));have HX1:=Hi (HB.out.below hb1 HB.out.lt)
 clear hb1 HT HP0
 go_wp2_with fail
 refine (goes_no w1 bp 0 0 t r [115,101,99,114,101,116] HP1.out (.inr N0.out)).mono ?_
 rintro e w2 ⟨rfl,hb2⟩
 have h12:=hb2.size
 have HP2:=Hi (HP1.out.below hb2);have HU2:=Hi (HU1.out.trans (below_UB hb2));have HX2:=Hi (HX1.out.below hb2 HX1.out.lt)
 clear hb2 HP1 HU1 HX1
 go_wp2_with fail
 refine (goes_no w2 bp 0 0 t r [112,117,98,108,105,99] HP2.out (.inr N1.out)).mono ?_
 rintro e w3 ⟨rfl,hb3⟩
 have h23:=hb3.size
 have HP3:=Hi (HP2.out.below hb3);have HU3:=Hi (HU2.out.trans (below_UB hb3));have HX3:=Hi (HX2.out.below hb3 HX2.out.lt)
 clear hb3 HP2 HU2 HX2
 go_wp2_with fail
 refine (goes_yes w3 bp t r [111,117,116] HP3.out HY.out HNE.out).mono ?_
 rintro e wa ⟨rfl,hpa,hua⟩
 have HSa:Hid (SC wa bp r.length (fun f l=>nameK l fun s r1=>must [61] r1 fun r2=>FinK f 8 t.at_ s [] 0 r2) (Rd numV .stmt 0 (t :: r))):=Hi (.inl ⟨r,hpa,HGR.out,Nat.le_refl _,fun o ho=>HR.out o ho⟩)
 have h1a:=hua.size
 have HUa:=Hi (HU3.out.trans hua);have HXa:=Hi (HX3.out.upd hua (show ¬ w.heap.size=bp by omega))
 clear hpa hua HP3 HU3 HX3
 go_wp2_with fail
 refine (name_u wa bp _ _ _ HSa.out).mono ?_
 rintro e wb ⟨sn,rfl,hsb,hub,hstb⟩
 have hab:=hub.size
 have HSb:=Hi hsb;have HUb:=Hi (HUa.out.trans hub);have HXb:=Hi (HXa.out.upd hub (show ¬ w.heap.size=bp by omega))
 clear hsb hub hstb HSa HUa HXa
 go_wp2_with fail
 refine (must_u wb bp _ _ _ _ HSb.out).mono ?_
 rintro e wx ⟨rfl,hsx,hux,hstx⟩
 have hbx:=hux.size
 have HSx:=Hi hsx;have HUx:=Hi (HUb.out.trans hux);have HXx:=Hi (HXb.out.upd hux (show ¬ w.heap.size=bp by omega))
 clear hsx hux hstx HSb HUb HXb
 go_wp2_with fail
 refine (ex_u wx bp _ 0 (fun xs f r=>must [59] r fun r'=>some (.ok [.mk 8 t.at_ sn 0 [] xs] r')) _ HSx.out).mono ?_
 rintro e w6 ⟨k,a,s,m,A,la,cA,B,lb,cB,x,rfl,hT,hS,hU,_⟩
 obtain ⟨w7,hw7⟩:∃ w7,w6.alloc (.cells #[.int .i64 (k:Int),.string ⟨s.toArray⟩,.int .u32 (m:Int),.int .i64 (a:Int),.slice A la cA,.slice B lb cB] 26)=w7:=⟨_,rfl⟩
 have hb7:Below w6.heap.size w6 w7:=by rw [←hw7];exact (Below.refl _ _).alloc (Nat.le_refl _) _
 have hbn:Blk w7 w6.heap.size 26 #[.int .i64 (k:Int),.string ⟨s.toArray⟩,.int .u32 (m:Int),.int .i64 (a:Int),.slice A la cA,.slice B lb cB]:=by rw [←hw7];exact Blk.new _ _ _
 have hx6:=hU.size
 have h67:=hbn.lt
 have HT6:=Hi hT;have HS7:=Hi (hS.below hb7);have HST:=Hi (hS.stay hb7);have HU7:=Hi ((HUx.out.trans hU).trans (below_UB hb7));have HX7:=Hi ((HXx.out.upd hU (show ¬ w.heap.size=bp by omega)).below hb7 (by omega));have HB7:=Hi hb7;have HW7:=Hi hw7;have HBN:=Hi hbn
 clear hT hS hU hb7 hw7 hbn HSx HUx HXx
 go_wp2_with fail
 rw [HW7.out]
 refine (must_u w7 bp _ _ _ _ HS7.out).mono ?_
 rintro e w8 ⟨rfl,hs8,hu8,hst8⟩
 have h78:=hu8.size
 have hn8:=HBN.out.upd hu8 (show ¬ w6.heap.size=bp by omega)
 obtain ⟨⟨g0,g1,g2,g3,g4,g5⟩,x0,x1,x2,x3,x4,x5⟩:=Blk.c6 hn8
 have hn8l:=hn8.lt
 have HS8:=Hi hs8;have HST8:=Hi hst8;have HU8:=Hi (HU7.out.trans hu8);have HX8:=Hi (HX7.out.upd hu8 (show ¬ w.heap.size=bp by omega));have HU78:=Hi hu8
 clear hs8 hu8 hst8 hn8 HS7 HU7 HX7
 go_wp2_with fail
 obtain ⟨w9,hw9⟩:∃ w9,w8.alloc (.cells #[.int .i64 (k:Int),.string ⟨s.toArray⟩,.int .u32 (m:Int),.int .i64 (a:Int),.slice A la cA,.slice B lb cB] 26)=w9:=⟨_,rfl⟩
 have hb9:Below w8.heap.size w8 w9:=by rw [←hw9];exact (Below.refl _ _).alloc (Nat.le_refl _) _
 rw [hw9]
 refine (node w9 8 t.at_ sn _ 1 1).mono ?_
 rintro e w10 ⟨rfl,hb10⟩
 have hb89:Below w8.heap.size w8 w10:=hb9.trans (hb10.mono hb9.size)
 have hx:=HX8.out.below hb89 HX8.out.lt
 obtain ⟨⟨e0,e1,e2,e3,e4,e5⟩,z0,z1,z2,z3,z4,z5⟩:=Blk.c6 hx
 have H1:=Hi hx;have HB8:=Hi hb89;have HB10:=Hi hb10;have HW9:=Hi hw9
 clear hx hb89 hb9 hb10 hw9 g0 g1 g2 g3 g4 g5 x0 x1 x2 x3 x4 x5
 go_wp2_with fail
 refine bodyPost_ret (resNd rfl rfl (Blk.put6 H1.out _ _ _ _ _ _) rfl) rfl ?_
 have hU10:UB bp w w10:=HU8.out.trans (below_UB HB8.out)
 rcases HS8.out with ⟨l8,hq8,hg8,hl8,hE8⟩ | ⟨ba,er,t8,r8,he8,hE8,hq8⟩
 ·have hz:=HST.out.back (HST8.out.back (whyQ_live hq8))
  have hT8:TIn (fun b=>w.heap.size+1≤b) w8 x (ndC k a s m A la cA B lb cB):=(((tup (HT6.out hz) (show w.heap.size+1≤wx.heap.size by omega)).upd (Upd.of_below HB7.out fun _=>False) (fun _ _ h=>h)).upd HU78.out fun b hb e=>by omega)
  have hA:=ArrT.first (e:=26) hT8 (by omega)
  rw [show w8.alloc (.cells (ndC k a s m A la cA B lb cB).toArray 26)=w9 from HW9.out] at hA
  have hN:=(hA.upd (Upd.of_below HB10.out fun _=>False) (fun _ h=>h.elim)).node (by simp) 8 t.at_ 0 sn
  exact q_ok (lo:=w.heap.size+1) hlt (Nat.lt_succ_self _) hN (hE8 _ (ev_now _)) (hq8.below HB8.out) hg8 (by simp only [List.length_cons];omega) hU10
 ·exact q_bad 8 t.at_ 0 1 1 0 0 sn _ none hlt he8 hE8 (hq8.below HB8.out) hU10
theorem st_show(w:World)(bp:Nat)(t:Tk)(r:List Tk)(hp:QS w bp (t :: r) 0 0)(hg:Gt (t :: r))(n0:isS [115,101,99,114,101,116] t=false)(n1:isS [112,117,98,108,105,99] t=false)(n2:isS [111,117,116] t=false)(y:isS [115,104,111,119] t=true) :
  Calls Tryz.prog 32 #[.pointer (some ⟨bp,0,none⟩)] w (OutQ w bp (t :: r) (Rd numV .stmt 0 (t :: r))):=by
 have HR:=Hi fun (o:Out)=>st_set (k:=9) (a:=t.at_) (t:=t) (r:=r) (o:=o) fun f=>by rw [st_,if_neg (by rw [n0];decide),if_neg (by rw [n1];decide),if_neg (by rw [n2];decide),if_pos y]
 obtain ⟨w0,hw0,hb0,hB⟩:=zero_box w
 have hlt:=hp.lt
 have hfw:=hg.few
 simp only [List.length_cons] at hfw
 have HT:=Hi (tok w0 bp 0 0 t r (hp.below hb0))
 have HP0:=Hi (hp.below hb0)
 have HGR:=Hi (hg.tail (is_k y));have HNE:=Hi (gt_ne hg (is_k y));have HY:=Hi y
 have N0:=Hi n0
 have N1:=Hi n1
 have N2:=Hi n2
 have HB0:=Hi hb0;have HB:=Hi hB;have HW:=Hi hw0
 have hbl:=hB.lt
 clear hb0 hB hp hw0 hg y n0 n1 n2
 go_enter Tryz.func32,Tryz.ntmps32
 go_wp2_with fail
 rw [HW.out]
 refine HT.out.mono ?_
 rintro e w1 ⟨rfl,hb1⟩
 have h01:=hb1.size
 have HP1:=Hi (HP0.out.below hb1);have HU1:=Hi ((below_UB (bp:=bp) HB0.out).trans (below_UB hb1));have HX1:=Hi (HB.out.below hb1 HB.out.lt)
 clear hb1 HT HP0
 go_wp2_with fail
 refine (goes_no w1 bp 0 0 t r [115,101,99,114,101,116] HP1.out (.inr N0.out)).mono ?_
 rintro e w2 ⟨rfl,hb2⟩
 have h12:=hb2.size
 have HP2:=Hi (HP1.out.below hb2);have HU2:=Hi (HU1.out.trans (below_UB hb2));have HX2:=Hi (HX1.out.below hb2 HX1.out.lt)
 clear hb2 HP1 HU1 HX1
 go_wp2_with fail
 refine (goes_no w2 bp 0 0 t r [112,117,98,108,105,99] HP2.out (.inr N1.out)).mono ?_
 rintro e w3 ⟨rfl,hb3⟩
 have h23:=hb3.size
 have HP3:=Hi (HP2.out.below hb3);have HU3:=Hi (HU2.out.trans (below_UB hb3));have HX3:=Hi (HX2.out.below hb3 HX2.out.lt)
 clear hb3 HP2 HU2 HX2
 go_wp2_with fail
 refine (goes_no w3 bp 0 0 t r [111,117,116] HP3.out (.inr N2.out)).mono ?_
 rintro e w4 ⟨rfl,hb4⟩
 have h34:=hb4.size
 have HP4:=Hi (HP3.out.below hb4);have HU4:=Hi (HU3.out.trans (below_UB hb4));have HX4:=Hi (HX3.out.below hb4 HX3.out.lt)
 clear hb4 HP3 HU3 HX3
 go_wp2_with fail
 refine (goes_yes w4 bp t r [115,104,111,119] HP4.out HY.out HNE.out).mono ?_
 rintro e wa ⟨rfl,hpa,hua⟩
 have HSa:Hid (SC wa bp r.length (fun f l=>nameK l fun s r1=>must [61] r1 fun r2=>FinK f 9 t.at_ s [] 0 r2) (Rd numV .stmt 0 (t :: r))):=Hi (.inl ⟨r,hpa,HGR.out,Nat.le_refl _,fun o ho=>HR.out o ho⟩)
 have h1a:=hua.size
 have HUa:=Hi (HU4.out.trans hua);have HXa:=Hi (HX4.out.upd hua (show ¬ w.heap.size=bp by omega))
 clear hpa hua HP4 HU4 HX4
 go_wp2_with fail
 refine (name_u wa bp _ _ _ HSa.out).mono ?_
 rintro e wb ⟨sn,rfl,hsb,hub,hstb⟩
 have hab:=hub.size
 have HSb:=Hi hsb;have HUb:=Hi (HUa.out.trans hub);have HXb:=Hi (HXa.out.upd hub (show ¬ w.heap.size=bp by omega))
 clear hsb hub hstb HSa HUa HXa
 go_wp2_with fail
 refine (must_u wb bp _ _ _ _ HSb.out).mono ?_
 rintro e wx ⟨rfl,hsx,hux,hstx⟩
 have hbx:=hux.size
 have HSx:=Hi hsx;have HUx:=Hi (HUb.out.trans hux);have HXx:=Hi (HXb.out.upd hux (show ¬ w.heap.size=bp by omega))
 clear hsx hux hstx HSb HUb HXb
 go_wp2_with fail
 refine (ex_u wx bp _ 0 (fun xs f r=>must [59] r fun r'=>some (.ok [.mk 9 t.at_ sn 0 [] xs] r')) _ HSx.out).mono ?_
 rintro e w6 ⟨k,a,s,m,A,la,cA,B,lb,cB,x,rfl,hT,hS,hU,_⟩
 obtain ⟨w7,hw7⟩:∃ w7,w6.alloc (.cells #[.int .i64 (k:Int),.string ⟨s.toArray⟩,.int .u32 (m:Int),.int .i64 (a:Int),.slice A la cA,.slice B lb cB] 26)=w7:=⟨_,rfl⟩
 have hb7:Below w6.heap.size w6 w7:=by rw [←hw7];exact (Below.refl _ _).alloc (Nat.le_refl _) _
 have hbn:Blk w7 w6.heap.size 26 #[.int .i64 (k:Int),.string ⟨s.toArray⟩,.int .u32 (m:Int),.int .i64 (a:Int),.slice A la cA,.slice B lb cB]:=by rw [←hw7];exact Blk.new _ _ _
 have hx6:=hU.size
 have h67:=hbn.lt
 have HT6:=Hi hT;have HS7:=Hi (hS.below hb7);have HST:=Hi (hS.stay hb7);have HU7:=Hi ((HUx.out.trans hU).trans (below_UB hb7));have HX7:=Hi ((HXx.out.upd hU (show ¬ w.heap.size=bp by omega)).below hb7 (by omega));have HB7:=Hi hb7;have HW7:=Hi hw7;have HBN:=Hi hbn
 clear hT hS hU hb7 hw7 hbn HSx HUx HXx
 go_wp2_with fail
 rw [HW7.out]
 refine (must_u w7 bp _ _ _ _ HS7.out).mono ?_
 rintro e w8 ⟨rfl,hs8,hu8,hst8⟩
 have h78:=hu8.size
 have hn8:=HBN.out.upd hu8 (show ¬ w6.heap.size=bp by omega)
 obtain ⟨⟨g0,g1,g2,g3,g4,g5⟩,x0,x1,x2,x3,x4,x5⟩:=Blk.c6 hn8
 have hn8l:=hn8.lt
 have HS8:=Hi hs8;have HST8:=Hi hst8;have HU8:=Hi (HU7.out.trans hu8);have HX8:=Hi (HX7.out.upd hu8 (show ¬ w.heap.size=bp by omega));have HU78:=Hi hu8
 clear hs8 hu8 hst8 hn8 HS7 HU7 HX7
 go_wp2_with fail
 obtain ⟨w9,hw9⟩:∃ w9,w8.alloc (.cells #[.int .i64 (k:Int),.string ⟨s.toArray⟩,.int .u32 (m:Int),.int .i64 (a:Int),.slice A la cA,.slice B lb cB] 26)=w9:=⟨_,rfl⟩
 have hb9:Below w8.heap.size w8 w9:=by rw [←hw9];exact (Below.refl _ _).alloc (Nat.le_refl _) _
 rw [hw9]
 refine (node w9 9 t.at_ sn _ 1 1).mono ?_
 rintro e w10 ⟨rfl,hb10⟩
 have hb89:Below w8.heap.size w8 w10:=hb9.trans (hb10.mono hb9.size)
 have hx:=HX8.out.below hb89 HX8.out.lt
 obtain ⟨⟨e0,e1,e2,e3,e4,e5⟩,z0,z1,z2,z3,z4,z5⟩:=Blk.c6 hx
 have H1:=Hi hx;have HB8:=Hi hb89;have HB10:=Hi hb10;have HW9:=Hi hw9
 clear hx hb89 hb9 hb10 hw9 g0 g1 g2 g3 g4 g5 x0 x1 x2 x3 x4 x5
 go_wp2_with fail
 refine bodyPost_ret (resNd rfl rfl (Blk.put6 H1.out _ _ _ _ _ _) rfl) rfl ?_
 have hU10:UB bp w w10:=HU8.out.trans (below_UB HB8.out)
 rcases HS8.out with ⟨l8,hq8,hg8,hl8,hE8⟩ | ⟨ba,er,t8,r8,he8,hE8,hq8⟩
 ·have hz:=HST.out.back (HST8.out.back (whyQ_live hq8))
  have hT8:TIn (fun b=>w.heap.size+1≤b) w8 x (ndC k a s m A la cA B lb cB):=(((tup (HT6.out hz) (show w.heap.size+1≤wx.heap.size by omega)).upd (Upd.of_below HB7.out fun _=>False) (fun _ _ h=>h)).upd HU78.out fun b hb e=>by omega)
  have hA:=ArrT.first (e:=26) hT8 (by omega)
  rw [show w8.alloc (.cells (ndC k a s m A la cA B lb cB).toArray 26)=w9 from HW9.out] at hA
  have hN:=(hA.upd (Upd.of_below HB10.out fun _=>False) (fun _ h=>h.elim)).node (by simp) 9 t.at_ 0 sn
  exact q_ok (lo:=w.heap.size+1) hlt (Nat.lt_succ_self _) hN (hE8 _ (ev_now _)) (hq8.below HB8.out) hg8 (by simp only [List.length_cons];omega) hU10
 ·exact q_bad 9 t.at_ 0 1 1 0 0 sn _ none hlt he8 hE8 (hq8.below HB8.out) hU10
theorem st_fun(w:World)(bp:Nat)(t:Tk)(r:List Tk)(hp:QS w bp (t :: r) 0 0)(hg:Gt (t :: r))(n0:isS [115,101,99,114,101,116] t=false)(n1:isS [112,117,98,108,105,99] t=false)(n2:isS [111,117,116] t=false)(n3:isS [115,104,111,119] t=false)(y:isS [102,110] t=true) :
  Calls Tryz.prog 32 #[.pointer (some ⟨bp,0,none⟩)] w (OutQ w bp (t :: r) (Rd numV .stmt 0 (t :: r))):=by
 have HR:=Hi fun (o:Out)=>st_fn (a:=t.at_) (t:=t) (r:=r) (o:=o) fun f=>by rw [st_,if_neg (by rw [n0];decide),if_neg (by rw [n1];decide),if_neg (by rw [n2];decide),if_neg (by rw [n3];decide),if_pos y]
 obtain ⟨w0,hw0,hb0,hB⟩:=zero_box w
 have hlt:=hp.lt
 have hfw:=hg.few
 simp only [List.length_cons] at hfw
 have HT:=Hi (tok w0 bp 0 0 t r (hp.below hb0))
 have HP0:=Hi (hp.below hb0)
 have HGR:=Hi (hg.tail (is_k y));have HNE:=Hi (gt_ne hg (is_k y));have HY:=Hi y
 have N0:=Hi n0
 have N1:=Hi n1
 have N2:=Hi n2
 have N3:=Hi n3
 have HB0:=Hi hb0;have HB:=Hi hB;have HW:=Hi hw0
 have hbl:=hB.lt
 clear hb0 hB hp hw0 hg y n0 n1 n2 n3
 go_enter Tryz.func32,Tryz.ntmps32
 go_wp2_with fail
 rw [HW.out]
 refine HT.out.mono ?_
 rintro e w1 ⟨rfl,hb1⟩
 have h01:=hb1.size
 have HP1:=Hi (HP0.out.below hb1);have HU1:=Hi ((below_UB (bp:=bp) HB0.out).trans (below_UB hb1));have HX1:=Hi (HB.out.below hb1 HB.out.lt)
 clear hb1 HT HP0
 go_wp2_with fail
 refine (goes_no w1 bp 0 0 t r [115,101,99,114,101,116] HP1.out (.inr N0.out)).mono ?_
 rintro e w2 ⟨rfl,hb2⟩
 have h12:=hb2.size
 have HP2:=Hi (HP1.out.below hb2);have HU2:=Hi (HU1.out.trans (below_UB hb2));have HX2:=Hi (HX1.out.below hb2 HX1.out.lt)
 clear hb2 HP1 HU1 HX1
 go_wp2_with fail
 refine (goes_no w2 bp 0 0 t r [112,117,98,108,105,99] HP2.out (.inr N1.out)).mono ?_
 rintro e w3 ⟨rfl,hb3⟩
 have h23:=hb3.size
 have HP3:=Hi (HP2.out.below hb3);have HU3:=Hi (HU2.out.trans (below_UB hb3));have HX3:=Hi (HX2.out.below hb3 HX2.out.lt)
 clear hb3 HP2 HU2 HX2
 go_wp2_with fail
 refine (goes_no w3 bp 0 0 t r [111,117,116] HP3.out (.inr N2.out)).mono ?_
 rintro e w4 ⟨rfl,hb4⟩
 have h34:=hb4.size
 have HP4:=Hi (HP3.out.below hb4);have HU4:=Hi (HU3.out.trans (below_UB hb4));have HX4:=Hi (HX3.out.below hb4 HX3.out.lt)
 clear hb4 HP3 HU3 HX3
 go_wp2_with fail
 refine (goes_no w4 bp 0 0 t r [115,104,111,119] HP4.out (.inr N3.out)).mono ?_
 rintro e w5 ⟨rfl,hb5⟩
 have h45:=hb5.size
 have HP5:=Hi (HP4.out.below hb5);have HU5:=Hi (HU4.out.trans (below_UB hb5));have HX5:=Hi (HX4.out.below hb5 HX4.out.lt)
 clear hb5 HP4 HU4 HX4
 go_wp2_with fail
 refine (goes_yes w5 bp t r [102,110] HP5.out HY.out HNE.out).mono ?_
 rintro e wa ⟨rfl,hpa,hua⟩
 have HSa:Hid (SC wa bp r.length (fun f l=>FnQ f t.at_ l) (Rd numV .stmt 0 (t :: r))):=Hi (.inl ⟨r,hpa,HGR.out,Nat.le_refl _,fun o ho=>HR.out o ho⟩)
 have h1a:=hua.size
 have HUa:=Hi (HU5.out.trans hua);have HXa:=Hi (HX5.out.upd hua (show ¬ w.heap.size=bp by omega))
 clear hpa hua HP5 HU5 HX5
 go_wp2_with fail
 refine (name_u wa bp _ (fun s f r1=>must [40] r1 fun r2=>NmK [] (fun ps f r3=>must [41] r3 fun r4=>must [61] r4 fun r5=>FinK f 12 t.at_ s ps 0 r5) f r2) _ HSa.out).mono ?_
 rintro e wb ⟨sn,rfl,hsb,hub,hstb⟩
 have hab:=hub.size
 have HSb:=Hi hsb;have HUb:=Hi (HUa.out.trans hub);have HXb:=Hi (HXa.out.upd hub (show ¬ w.heap.size=bp by omega))
 clear hsb hub hstb HSa HUa HXa
 go_wp2_with fail
 refine (must_u wb bp _ _ (NmK [] (fun ps f r3=>must [41] r3 fun r4=>must [61] r4 fun r5=>FinK f 12 t.at_ sn ps 0 r5)) _ HSb.out).mono ?_
 rintro e wc ⟨rfl,hsc,huc,hstc⟩
 have hbc:=huc.size
 have HSc:=Hi hsc;have HUc:=Hi (HUb.out.trans huc);have HXc:=Hi (HXb.out.upd huc (show ¬ w.heap.size=bp by omega))
 clear hsc huc hstc HSb HUb HXb
 go_wp2_with fail
 refine (names_u wc bp _ (by omega) (fun ps f r3=>must [41] r3 fun r4=>must [61] r4 fun r5=>FinK f 12 t.at_ sn ps 0 r5) _ HSc.out).mono ?_
 rintro e wd ⟨ps,gp,cp,rfl,hLd,hgd,hplen,hsd,hud,hstd⟩
 have hcd:=hud.size
 have HLd:=Hi hLd
 have HSd:=Hi hsd;have HUd:=Hi (HUc.out.trans hud);have HXd:=Hi (HXc.out.upd hud (show ¬ w.heap.size=bp by omega))
 clear hsd hud hstd HSc HUc HXc hLd
 go_wp2_with fail
 refine (must_u wd bp _ _ (fun f r4=>must [61] r4 fun r5=>FinK f 12 t.at_ sn ps 0 r5) _ HSd.out).mono ?_
 rintro e we ⟨rfl,hse,hue,hste⟩
 have hde:=hue.size
 have HLe:=Hi (hue.lies HLd.out fun b o e _ hx=>by cases e;omega)
 have HSe:=Hi hse;have HUe:=Hi (HUd.out.trans hue);have HXe:=Hi (HXd.out.upd hue (show ¬ w.heap.size=bp by omega))
 clear hse hue hste HSd HUd HXd
 go_wp2_with fail
 refine (must_u we bp _ _ (fun f r5=>FinK f 12 t.at_ sn ps 0 r5) _ HSe.out).mono ?_
 rintro e wx ⟨rfl,hsx,hux,hstx⟩
 have hex:=hux.size
 have HLP:=Hi (hux.lies HLe.out fun b o e _ hx=>by cases e;omega)
 have HSx:=Hi hsx;have HUx:=Hi (HUe.out.trans hux);have HXx:=Hi (HXe.out.upd hux (show ¬ w.heap.size=bp by omega))
 clear hsx hux hstx HSe HUe HXe
 go_wp2_with fail
 refine (ex_u wx bp _ 0 (fun xs f r=>must [59] r fun r'=>some (.ok [.mk 12 t.at_ sn 0 ps xs] r')) _ HSx.out).mono ?_
 rintro e w6 ⟨k,a,s,m,A,la,cA,B,lb,cB,x,rfl,hT,hS,hU,_⟩
 obtain ⟨w7,hw7⟩:∃ w7,w6.alloc (.cells #[.int .i64 (k:Int),.string ⟨s.toArray⟩,.int .u32 (m:Int),.int .i64 (a:Int),.slice A la cA,.slice B lb cB] 26)=w7:=⟨_,rfl⟩
 have hb7:Below w6.heap.size w6 w7:=by rw [←hw7];exact (Below.refl _ _).alloc (Nat.le_refl _) _
 have hbn:Blk w7 w6.heap.size 26 #[.int .i64 (k:Int),.string ⟨s.toArray⟩,.int .u32 (m:Int),.int .i64 (a:Int),.slice A la cA,.slice B lb cB]:=by rw [←hw7];exact Blk.new _ _ _
 have hx6:=hU.size
 have h67:=hbn.lt
 have HT6:=Hi hT;have HS7:=Hi (hS.below hb7);have HST:=Hi (hS.stay hb7);have HU7:=Hi ((HUx.out.trans hU).trans (below_UB hb7));have HX7:=Hi ((HXx.out.upd hU (show ¬ w.heap.size=bp by omega)).below hb7 (by omega));have HB7:=Hi hb7;have HW7:=Hi hw7;have HBN:=Hi hbn;have HLP7:=Hi ((hU.lies HLP.out fun b o e _ hx=>by cases e;omega).below hb7)
 clear hT hS hU hb7 hw7 hbn HSx HUx HXx
 go_wp2_with fail
 rw [HW7.out]
 refine (must_u w7 bp _ _ _ _ HS7.out).mono ?_
 rintro e w8 ⟨rfl,hs8,hu8,hst8⟩
 have h78:=hu8.size
 have hn8:=HBN.out.upd hu8 (show ¬ w6.heap.size=bp by omega)
 obtain ⟨⟨g0,g1,g2,g3,g4,g5⟩,x0,x1,x2,x3,x4,x5⟩:=Blk.c6 hn8
 have hn8l:=hn8.lt
 have HS8:=Hi hs8;have HST8:=Hi hst8;have HU8:=Hi (HU7.out.trans hu8);have HX8:=Hi (HX7.out.upd hu8 (show ¬ w.heap.size=bp by omega));have HU78:=Hi hu8;have HLP8:=Hi (hu8.lies HLP7.out fun b o e _ hx=>by cases e;omega)
 clear hs8 hu8 hst8 hn8 HS7 HU7 HX7
 have hx8:=HX8.out
 obtain ⟨⟨e0,e1,e2,e3,e4,e5⟩,z0,z1,z2,z3,z4,z5⟩:=Blk.c6 hx8
 have hx8l:=hx8.lt
 obtain ⟨w9,hw9⟩:∃ w9,w8.alloc (.cells #[.int .i64 (k:Int),.string ⟨s.toArray⟩,.int .u32 (m:Int),.int .i64 (a:Int),.slice A la cA,.slice B lb cB] 26)=w9:=⟨_,rfl⟩
 have hb9:Below w8.heap.size w8 w9:=by rw [←hw9];exact (Below.refl _ _).alloc (Nat.le_refl _) _
 have hx9:=hx8.below hb9 hx8l
 obtain ⟨⟨p0,p1,p2,p3,p4,p5⟩,q0,q1,q2,q3,q4,q5⟩:=Blk.c6 hx9
 have hx9l:=hx9.lt
 have hcom:=put6_alloc w8 w.heap.size (.cells #[.int .i64 (k:Int),.string ⟨s.toArray⟩,.int .u32 (m:Int),.int .i64 (a:Int),.slice A la cA,.slice B lb cB] 26) (.int .i64 12) (.string ⟨sn.toArray⟩) (.int .u32 0) (.int .i64 (t.at_:Int)) (.slice (some ⟨w8.heap.size,0,none⟩) 1 1) (.slice (some ⟨gp,0,none⟩) ps.length cp) hx8l
 rw [hw9] at hcom
 unfold put6 at hcom
 have HX9:=Hi hx9;have HB9:=Hi hb9;have HW9:=Hi hw9;have HCOM:=Hi hcom
 clear hx8 hx9 hb9 hw9 hcom
 go_wp2_with fail
 rw [HCOM.out]
 refine bodyPost_ret (resNd rfl rfl (Blk.put6 HX9.out _ _ _ _ _ _) rfl) rfl ?_
 have hU10:UB bp w w9:=HU8.out.trans (below_UB HB9.out)
 rcases HS8.out with ⟨l8,hq8,hg8,hl8,hE8⟩ | ⟨ba,er,t8,r8,he8,hE8,hq8⟩
 ·have hz:=HST.out.back (HST8.out.back (whyQ_live hq8))
  have hT8:TIn (fun b=>w.heap.size+1≤b) w8 x (ndC k a s m A la cA B lb cB):=(((tup (HT6.out hz) (show w.heap.size+1≤wx.heap.size by omega)).upd (Upd.of_below HB7.out fun _=>False) (fun _ _ h=>h)).upd HU78.out fun b hb e=>by omega)
  have hA:=ArrT.first (e:=26) hT8 (by omega)
  rw [show w8.alloc (.cells (ndC k a s m A la cA B lb cB).toArray 26)=w9 from HW9.out] at hA
  have hN:=nodeP (cp:=cp) hA (by simp) (HLP8.out.below HB9.out) (by omega) ⟨by omega,by omega,by omega⟩ 12 t.at_ 0 sn
  exact q_ok (lo:=w.heap.size+1) hlt (Nat.lt_succ_self _) hN (hE8 _ (ev_now _)) (hq8.below HB9.out) hg8 (by simp only [List.length_cons];omega) hU10
 ·exact q_bad 12 t.at_ 0 1 1 _ _ sn _ _ hlt he8 hE8 (hq8.below HB9.out) hU10
theorem st_in(w:World)(bp:Nat)(t:Tk)(r:List Tk)(hp:QS w bp (t :: r) 0 0)(hg:Gt (t :: r))(n0:isS [115,101,99,114,101,116] t=false)(n1:isS [112,117,98,108,105,99] t=false)(n2:isS [111,117,116] t=false)(n3:isS [115,104,111,119] t=false)(n4:isS [102,110] t=false) :
  Calls Tryz.prog 32 #[.pointer (some ⟨bp,0,none⟩)] w (OutQ w bp (t :: r) (Rd numV .stmt 0 (t :: r))):=by
 have HR:=Hi fun (o:Out) (h:Rd numV .inner 0 (t :: r) o)=>rd_eq (nt:=.stmt) (d:=0) h fun f=>by rw [st_,if_neg (by rw [n0];decide),if_neg (by rw [n1];decide),if_neg (by rw [n2];decide),if_neg (by rw [n3];decide),if_neg (by rw [n4];decide)]
 obtain ⟨w0,hw0,hb0,hB⟩:=zero_box w
 have hlt:=hp.lt
 have hfw:=hg.few
 simp only [List.length_cons] at hfw
 have HT:=Hi (tok w0 bp 0 0 t r (hp.below hb0))
 have HP0:=Hi (hp.below hb0)
 have HG:=Hi hg
 have N0:=Hi n0
 have N1:=Hi n1
 have N2:=Hi n2
 have N3:=Hi n3
 have N4:=Hi n4
 have HB0:=Hi hb0;have HB:=Hi hB;have HW:=Hi hw0
 have hbl:=hB.lt
 clear hb0 hB hp hw0 hg n0 n1 n2 n3 n4
 go_enter Tryz.func32,Tryz.ntmps32
 go_wp2_with fail
 rw [HW.out]
 refine HT.out.mono ?_
 rintro e w1 ⟨rfl,hb1⟩
 have h01:=hb1.size
 have HP1:=Hi (HP0.out.below hb1);have HU1:=Hi ((below_UB (bp:=bp) HB0.out).trans (below_UB hb1));have HX1:=Hi (HB.out.below hb1 HB.out.lt)
 clear hb1 HT HP0
 go_wp2_with fail
 refine (goes_no w1 bp 0 0 t r [115,101,99,114,101,116] HP1.out (.inr N0.out)).mono ?_
 rintro e w2 ⟨rfl,hb2⟩
 have h12:=hb2.size
 have HP2:=Hi (HP1.out.below hb2);have HU2:=Hi (HU1.out.trans (below_UB hb2));have HX2:=Hi (HX1.out.below hb2 HX1.out.lt)
 clear hb2 HP1 HU1 HX1
 go_wp2_with fail
 refine (goes_no w2 bp 0 0 t r [112,117,98,108,105,99] HP2.out (.inr N1.out)).mono ?_
 rintro e w3 ⟨rfl,hb3⟩
 have h23:=hb3.size
 have HP3:=Hi (HP2.out.below hb3);have HU3:=Hi (HU2.out.trans (below_UB hb3));have HX3:=Hi (HX2.out.below hb3 HX2.out.lt)
 clear hb3 HP2 HU2 HX2
 go_wp2_with fail
 refine (goes_no w3 bp 0 0 t r [111,117,116] HP3.out (.inr N2.out)).mono ?_
 rintro e w4 ⟨rfl,hb4⟩
 have h34:=hb4.size
 have HP4:=Hi (HP3.out.below hb4);have HU4:=Hi (HU3.out.trans (below_UB hb4));have HX4:=Hi (HX3.out.below hb4 HX3.out.lt)
 clear hb4 HP3 HU3 HX3
 go_wp2_with fail
 refine (goes_no w4 bp 0 0 t r [115,104,111,119] HP4.out (.inr N3.out)).mono ?_
 rintro e w5 ⟨rfl,hb5⟩
 have h45:=hb5.size
 have HP5:=Hi (HP4.out.below hb5);have HU5:=Hi (HU4.out.trans (below_UB hb5));have HX5:=Hi (HX4.out.below hb5 HX4.out.lt)
 clear hb5 HP4 HU4 HX4
 go_wp2_with fail
 refine (goes_no w5 bp 0 0 t r [102,110] HP5.out (.inr N4.out)).mono ?_
 rintro e w6 ⟨rfl,hb6⟩
 have h56:=hb6.size
 have HP6:=Hi (HP5.out.below hb6);have HU6:=Hi (HU5.out.trans (below_UB hb6));have HX6:=Hi (HX5.out.below hb6 HX5.out.lt)
 clear hb6 HP5 HU5 HX5
 go_wp2_with fail
 have HI:=Hi (inq (r.length+1) w6 bp 0 (t :: r) (by simp) HP6.out HG.out)
 refine (show Calls Tryz.prog 53 #[.pointer (some ⟨bp,0,none⟩),.int .i64 0] w6 _ from HI.out).mono ?_
 rintro e w9 ⟨k,a,s,n,A,la,cA,B,lb,cB,rfl,hU,hO⟩
 have h19:=hU.size
 have h1:=HX6.out.upd hU (by omega)
 obtain ⟨⟨e0,e1,e2,e3,e4,e5⟩,z0,z1,z2,z3,z4,z5⟩:=Blk.c6 h1
 have H1:=Hi h1;have HU9:=Hi (HU6.out.trans hU);have HO:=Hi hO
 clear h1 hU hO
 go_wp2_with fail
 refine bodyPost_ret (resNd rfl rfl (Blk.put6 H1.out _ _ _ _ _ _) rfl) rfl ?_
 refine q_pass (w0:=w6) hlt (by omega) HU9.out ?_
 rcases HO.out with ⟨x,r',g1,g2,g3⟩ | ⟨ba,er,t',r',g1,g2,g3⟩
 ·exact .inl ⟨x,r',g1,HR.out _ g2,g3⟩
 ·exact .inr ⟨ba,er,t',r',g1,HR.out _ g2,g3⟩
theorem stq(w:World)(bp:Nat)(l:List Tk)(hp:QS w bp l 0 0)(hg:Gt l):Calls Tryz.prog 32 #[.pointer (some ⟨bp,0,none⟩)] w (OutQ w bp l (Rd numV .stmt 0 l)):=by
 obtain ⟨t,r,rfl⟩:=hg.cons
 cases h0:isS [115,101,99,114,101,116] t
 rotate_left
 ·exact st_secret w bp t r hp hg h0
 cases h1:isS [112,117,98,108,105,99] t
 rotate_left
 ·exact st_public w bp t r hp hg h0 h1
 cases h2:isS [111,117,116] t
 rotate_left
 ·exact st_out w bp t r hp hg h0 h1 h2
 cases h3:isS [115,104,111,119] t
 rotate_left
 ·exact st_show w bp t r hp hg h0 h1 h2 h3
 cases h4:isS [102,110] t
 rotate_left
 ·exact st_fun w bp t r hp hg h0 h1 h2 h3 h4
 exact st_in w bp t r hp hg h0 h1 h2 h3 h4
end
section
attribute [local go_sem] fTk0 fTk1 fTk2
theorem two_box(w:World)(cs:Array Value):∃ w0,(w.alloc (.cells cs 26)).alloc (.cells zNd 26)=w0∧Below w.heap.size w w0∧Blk w0 w.heap.size 26 cs∧Blk w0 (w.heap.size+1) 26 zNd:=by
 have hs:(w.alloc (.cells cs 26)).heap.size=w.heap.size+1:=by simp
 refine ⟨_,rfl,((Below.refl _ _).alloc (Nat.le_refl _) _).alloc (by simp) _,(Blk.new _ _ _).alloc _,?_⟩
 rw [←hs]
 exact Blk.new _ _ _
theorem done_ok(w:World)(bp:Nat)(t:Tk)(r:List Tk)(hp:QS w bp (t :: r) 0 0)(hk:t.k = 0)(k a n la cA lb cB:Nat)(s:Bs)(A B:Option Addr) :
  Calls Tryz.prog 33 #[.pointer (some ⟨bp,0,none⟩),.agg #[.int .i64 (k:Int),.string ⟨s.toArray⟩,.int .u32 (n:Int),.int .i64 (a:Int),.slice A la cA,.slice B lb cB]] w fun e w'=>
   e = .returned (.tuple #[.agg #[.int .i64 (k:Int),.string ⟨s.toArray⟩,.int .u32 (n:Int),.int .i64 (a:Int),.slice A la cA,.slice B lb cB],.int .i64 0,.int .i64 0])∧Below w.heap.size w w':=by
 obtain ⟨w0,hw0,hb0,hX,hY⟩:=two_box w #[.int .i64 (k:Int),.string ⟨s.toArray⟩,.int .u32 (n:Int),.int .i64 (a:Int),.slice A la cA,.slice B lb cB]
 have HT:=Hi (tok w0 bp 0 0 t r (hp.below hb0))
 have HP0:=Hi (hp.below hb0);have HB0:=Hi hb0;have HX:=Hi hX;have HY:=Hi hY;have HW:=Hi hw0
 have hq:((t.k:Int) != 0)=false:=by simp;omega
 clear hp hb0 hX hY hw0
 go_enter Tryz.func33,Tryz.ntmps33
 go_wp2_with fail
 rw [HW.out]
 refine HT.out.mono ?_
 rintro e w1 ⟨rfl,hb1⟩
 have HP1:=Hi (HP0.out.below hb1)
 have HBD:=Hi (bad_no w1 bp 0 0 100 false t r HP1.out (.inl rfl))
 have hx:=HX.out.below hb1 HX.out.lt
 have hy:=HY.out.below hb1 HY.out.lt
 have HB1:=Hi (HB0.out.trans (hb1.mono HB0.out.size))
 obtain ⟨⟨e0,e1,e2,e3,e4,e5⟩,z0,z1,z2,z3,z4,z5⟩:=Blk.c6 hx
 obtain ⟨⟨g0,g1,g2,g3,g4,g5⟩,y0,y1,y2,y3,y4,y5⟩:=Blk.c6 hy
 have hxl:=hx.lt
 have hyl:=hy.lt
 obtain ⟨b',o,c,n',hn,hl,hc,hm,⟨c0,c1,c2,c3⟩,⟨u0,u1,u2,u3⟩,f4,f5,f6⟩:=HP1.out.head
 have hbl:=HP1.out.lt
 have HY1:=Hi hy
 clear hx hy hb1 hn hl hc hm f4 f5 f6
 go_wp2_with fail
 refine HBD.out.mono ?_
 rintro e w' ⟨rfl,rfl⟩
 go_wp2_with fail
 exact bodyPost_ret (v:=.tuple #[.agg #[.int .i64 (k:Int),.string ⟨s.toArray⟩,.int .u32 (n:Int),.int .i64 (a:Int),.slice A la cA,.slice B lb cB],.int .i64 0,.int .i64 0]) (res_ctt rfl _ _ rfl (Blk.put6 HY1.out _ _ _ _ _ _) rfl rfl rfl) rfl ⟨rfl,((((((HB1.out.setCell (Nat.le_succ _) _).setCell (Nat.le_succ _) _).setCell (Nat.le_succ _) _).setCell (Nat.le_succ _) _).setCell (Nat.le_succ _) _).setCell (Nat.le_succ _) _)⟩
end
end Go.Proofs.YtpoepignpdfleaaGreatDoor.Pq
