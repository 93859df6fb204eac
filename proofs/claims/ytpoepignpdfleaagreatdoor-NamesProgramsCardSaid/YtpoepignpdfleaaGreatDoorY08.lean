/- DERIVED. NmOu, NmFn, NmUs. By an AI agent. -/
import Derived.Test.YtpoepignpdfleaaGreatDoorY01
import Derived.Test.YtpoepignpdfleaaGreatDoorY06
import Derived.Test.YtpoepignpdfleaaGreatDoorY07
import Derived.Carry
import Derived.Deep.Cut
set_option maxRecDepth 100000
set_option maxHeartbeats 8000000
namespace Go.Proofs.YtpoepignpdfleaaGreatDoor.Nm
open Go Go.ChangeShapes Go.WideShapes Go.ChangeAt Go.RowKit Lx Args Pa Sh
set_option linter.unusedVariables false
set_option linter.unusedSimpArgs false
theorem outF_snoc(ou:List (Bs×Bool))(s:Bs)(b:Bool):(fun t=>outF ou t || t==s)=outF (ou ++ [(s,b)]):=by
 funext t
 unfold outF
 rw [List.map_append]
 by_cases h:t=s
 ·subst h;simp
 ·have h':(t==s)=false:=by simpa using h
  rw [h',Bool.or_false,List.contains_eq_mem,List.contains_eq_mem]
  simp [h]
theorem own_sl{w:World}{lo:Nat}{e:TypeId}{size n:Nat}{v:Value}{xs:List Value}(h:w.ownsRow lo e size v n xs):∃ A c,v = .slice A n c:=by
 rcases h.2 with ⟨h,h0⟩ | ⟨g,cap,cur,h,_⟩
 ·exact ⟨none,0,by rw [h,h0]⟩
 ·exact ⟨_,cap,h⟩
theorem in2_ne{N:Nat→Prop}{w wn:World}{b:Nat}(h:In2 N w wn b)(hs:wn.heap.size=w.heap.size+1):w.heap.size≠b:=by
 rcases h with h | h
 ·have:=h.2;omega
 ·omega
def outB(k a:Int)(s:Bs)(l:List Tz)(c:St):Rs:=
 exR (exBs (wordB c.kn) (callB c.kn) (l.take 1)) (if outF c.ou s=true then .bad a else .ok { c with ou:=c.ou ++ [(s,decide (k = 9))] })
theorem output(w0 w:World)(N:Nat→Prop)(lo g:Nat)(c:St)(m:Nat)(k a:Int)(s:Bs)(n:Nat)(A:Option Addr)(cA:Nat)(B:Option Addr)(lb cB:Nat)(l:List Tz)(css:List (List Value))(hb:Below w0.heap.size w0 w)(hL:Lies w0 A css.flatten)(hS:TsIz w0 l css)(hlc:l.length≤cA∧cA≤maxLen)
  (hs:s.length≤maxLen) (hlz:lenzs l) (hN:∀ b,N b→w0.heap.size≤b) (hc:CK N lo w g c m) (hm:m+1≤1099511627776) :
  Calls Tryz.prog 71 #[.pointer (some ⟨g,0,none⟩),nzA k a s n A l.length cA B lb cB] w (StatP N lo w g (outB k a s l c) (m+1)):=by
 obtain ⟨i0,hi,hz⟩:=Option.map_eq_some_iff.1 infoL
 have hz0:=congrArg (·.1) hz;have hz1:=congrArg (·.2.1) hz;have hz2:=congrArg (·.2.2) hz
 have HI:=Hi hi;have HZ0:=Hi hz0;have HZ1:=Hi hz1;have HZ2:=Hi hz2
 clear hi hz hz0 hz1 hz2
 obtain ⟨wn,hwn,hbn,hXn,hsn⟩:=a_box w (nB k a s n A l.length cA B lb cB)
 obtain ⟨⟨e0,e1,e2,e3,e4,e5⟩,z0,z1,z2,z3,z4,z5⟩:=Blk.c6 hXn
 have HCU:=Hi (cut_ wn A l.length cA 1 hlc.1 hlc.2 (by decide))
 have HC0:=Hi (in2_start hc hbn);have HU0:=Hi (Upd.of_below hbn N);have HX0:=Hi hXn;have HW:=Hi hwn;have HB0:=Hi (hb.trans (hbn.mono hb.size))
 have HL:=Hi hL;have HS:=Hi hS;have HLZ:=Hi hlz;have HM:=Hi hm;have HN:=Hi (in2_low (w:=w) hN (Nat.le_trans hb.size hbn.size));have HSN:=Hi hsn
 have hlm:l.length≤maxLen:=Nat.le_trans hlc.1 hlc.2
 obtain ⟨res,hres⟩:∃ res,outB k a s l c=res:=⟨_,rfl⟩
 rw [hres]
 have HRES:=Hi hres
 have hgl:=hXn.lt
 clear hc hbn hXn hwn hb hL hS hlz hm hN hlc hres hsn
 go_enter Tryz.func71,Tryz.ntmps71
 go_wp2_with fail
 rw [HW.out]
 refine (show Calls Tryz.prog 87 #[.slice A l.length cA,.int .i64 1] wn _ from HCU.out).mono ?_
 intro e w1 hcp
 obtain ⟨A1,c1,A2,c2,css1,css2,rfl,hL1,hS1,_,_,hb1⟩:=cut_parts hcp HL.out HS.out
 have HX1:=Hi (HX0.out.below hb1 HX0.out.lt);have HC1:=Hi (HC0.out.below hb1);have HU1:=Hi (upd_then HU0.out (Upd.of_below hb1 fun _=>False) fun _ h=>h.elim);have HB1:=Hi (HB0.out.trans (hb1.mono HB0.out.size))
 have hs1:=hb1.size
 have HEX:=Hi (exprs w0 w1 g c.kn _ _ _ A1 c1 (l.take 1) css1 HB1.out hL1 hS1 (Nat.le_trans (by rw [List.length_take];omega) hlm) (lenzs_take 1 HLZ.out).1 HC1.out.knp (isN_word HC1.out.knp))
 clear hcp hL1 hS1 hb1 HCU e0 e1 e2 e3 e4 e5 z0 z1 z2 z3 z4 z5
 obtain ⟨⟨e0,e1,e2,e3,e4,e5⟩,z0,z1,z2,z3,z4,z5⟩:=Blk.c6 HX1.out
 unfold outB at HRES
 generalize exBs (wordB c.kn) (callB c.kn) (l.take 1)=r1 at HEX HRES
 generalize (l.take 1).length=n1 at HEX
 generalize (l.drop 1).length=n2
 go_wp2_with fail
 refine (show Calls Tryz.prog 88 #[.pointer (some ⟨g,0,none⟩),.func (.func 89) #[.pointer (some ⟨g,0,none⟩)] #[],.slice A1 n1 c1] w1 _ from HEX.out).mono ?_
 intro e w2 h2
 cases r1 with
 | some a1=>
  obtain ⟨rfl,hb2⟩:=h2
  have HEND:=Hi (show StatP N lo w g res (m+1) (panW a1) w2 from by rw [←HRES.out];exact ⟨rfl,upd_then HU1.out (Upd.of_below hb2 fun _=>False) fun _ h=>h.elim⟩)
  clear hb2
  go_wp2_with fail
  exact ⟨rfl,HEND.out⟩
 | none=>
 obtain ⟨rfl,hb2⟩:=h2
 have HX2:=Hi (HX1.out.below hb2 HX1.out.lt);have HC2:=Hi (HC1.out.below hb2);have HU2:=Hi (upd_then HU1.out (Upd.of_below hb2 fun _=>False) fun _ h=>h.elim);have HB2:=Hi (HB1.out.trans (hb2.mono HB1.out.size))
 have hs2:=hb2.size
 have hdr:Below w2.heap.size w2 w2.drew:=Below.drew (Below.refl _ _)
 obtain ⟨wd,hwd⟩:∃ v,w2.drew=v:=⟨_,rfl⟩
 rw [hwd] at hdr
 have HXd:=Hi (HX2.out.below hdr HX2.out.lt);have HUd:=Hi (upd_then HU2.out (Upd.of_below hdr fun _=>False) fun _ h=>h.elim);have HBd:=Hi (HB2.out.trans (hdr.mono HB2.out.size))
 obtain ⟨⟨vs,vp,vo,ve,kb,ob,hv⟩,hbd⟩:=HC2.out.below hdr
 have HENL:=Hi HC2.out.enl
 have hsd:=hdr.size
 have hZ0:Upd (fun b=>b=ob) wd wd:=Upd.refl _ _
 have HNO:=Hi (in2_ne (hv.inN _ (by simp) ob rfl) HSN.out);have HGO:=Hi hv.ne.1.2.1
 have HAD:=Hi (add_ wd ob m _ hv.ms (big_lt HM.out) s hs)
 have HVd:=Hi hv;have HBDD:=Hi hbd
 obtain ⟨q,hq⟩:∃ q,outF c.ou s=q:=⟨_,rfl⟩
 unfold AddP at HAD
 rw [hq] at HAD HRES
 clear hb2 hdr hv hbd hq e0 e1 e2 e3 e4 e5 z0 z1 z2 z3 z4 z5
 go_wp2_with fail
 refine HT.wp_region (Z:=fun w'=>Upd (fun b=>b=ob) wd w') (S:=fun _=>True) (st:=[]) (by kernel_rfl) ?_
 rw [hwd]
 clear hwd
 refine HT.tk 0 rfl (by intro v hSw;have hA:=HXd.out.upd hSw HNO.out;have hG:=HVd.out.blk.upd hSw HGO.out;have E_:=Blk.c6 hA;have D_:=Blk.c6 hG;clear hSw hA hG;go_simp;try with_reducible rfl) hZ0 HT.tr ?_
 refine HT.tk 1 rfl (by intro v hSw;have hA:=HXd.out.upd hSw HNO.out;have hG:=HVd.out.blk.upd hSw HGO.out;have E_:=Blk.c6 hA;have D_:=Blk.c6 hG;clear hSw hA hG;go_simp;try with_reducible rfl) hZ0 HT.tr ?_
 refine HT.tk 2 rfl (by intro v hSw;have hA:=HXd.out.upd hSw HNO.out;have hG:=HVd.out.blk.upd hSw HGO.out;have E_:=Blk.c6 hA;have D_:=Blk.c6 hG;clear hSw hA hG;go_simp;try with_reducible rfl) hZ0 HT.tr ?_
 refine HT.tk 3 rfl (by intro v hSw;have hA:=HXd.out.upd hSw HNO.out;have hG:=HVd.out.blk.upd hSw HGO.out;have E_:=Blk.c6 hA;have D_:=Blk.c6 hG;clear hSw hA hG;go_simp;try with_reducible rfl) hZ0 HT.tr ?_
 refine HT.tk 4 rfl (by intro v hSw;have hA:=HXd.out.upd hSw HNO.out;have hG:=HVd.out.blk.upd hSw HGO.out;have E_:=Blk.c6 hA;have D_:=Blk.c6 hG;clear hSw hA hG;go_simp;try with_reducible rfl) hZ0 HT.tr ?_
 refine HT.tk 5 rfl (by intro v hSw;have hA:=HXd.out.upd hSw HNO.out;have hG:=HVd.out.blk.upd hSw HGO.out;have E_:=Blk.c6 hA;have D_:=Blk.c6 hG;clear hSw hA hG;go_simp;try with_reducible rfl) hZ0 HT.tr ?_
 refine HT.tk 6 rfl (by intro v hSw;have hA:=HXd.out.upd hSw HNO.out;have hG:=HVd.out.blk.upd hSw HGO.out;have E_:=Blk.c6 hA;have D_:=Blk.c6 hG;clear hSw hA hG;go_simp;try with_reducible rfl) hZ0 HT.tr ?_
 refine HT.one (i:=7) (by kernel_rfl) rfl (fun K hK=>?_)
 go_simp
 refine (show Calls Tryz.prog 23 #[.map (some ob),.string ⟨s.toArray⟩] wd _ from HAD.out).mono ?_
 rintro e w5 ⟨rfl,hms5,hu5⟩
 (try dsimp only)
 refine hK.out _ _ hu5 trivial ?_
 clear hK K
 (try simp only [HT.pS])
 have HMS5:=Hi hms5
 clear hms5 HAD
 cases q with
 | true=>
  have HQ2:=Hi (show Rs.bad a=res from HRES.out)
  have HR:=Hi (refuse w5 k a s n A l.length cA B lb cB true)
  refine HT.tm 8 rfl hu5 HT.tr ?_
  refine HT.one (i:=9) (by kernel_rfl) rfl (fun K hK=>?_)
  go_simp
  refine (show Calls Tryz.prog 83 #[nzA k a s n A l.length cA B lb cB,.bool true] w5 _ from HR.out).mono ?_
  rintro e w6 ⟨rfl,hb6⟩
  have HEND:=Hi (show StatP N lo w g res (m+1) (panW a) w6 from by
   rw [←HQ2.out]
   exact ⟨rfl,upd_then (in2_upd HUd.out (hu5.mono fun b hb=>hb ▸ HVd.out.inN _ (by simp) ob rfl) (by have:=HSN.out;omega)) (Upd.of_below hb6 fun _=>False) fun _ h=>h.elim⟩)
  clear hb6
  exact ⟨rfl,HEND.out⟩
 | false=>
  have HR:=Hi (refuse w5 k a s n A l.length cA B lb cB false)
  refine HT.tm 8 rfl hu5 HT.tr ?_
  refine HT.one (i:=9) (by kernel_rfl) rfl (fun K hK=>?_)
  go_simp
  refine (show Calls Tryz.prog 83 #[nzA k a s n A l.length cA B lb cB,.bool false] w5 _ from HR.out).mono ?_
  rintro e w6 ⟨rfl,hb6⟩
  have hz6:Upd (fun b=>b=ob) wd w6:=upd_then hu5 (Upd.of_below hb6 fun _=>False) fun _ h=>h.elim
  (try dsimp only)
  refine hK.out _ _ hz6 trivial ?_
  clear hK K
  (try simp only [HT.pS])
  refine HT.done (by kernel_rfl) ?_
  have hdr:Below w6.heap.size w6 w6.drew:=Below.drew (Below.refl _ _)
  obtain ⟨wz,hwd⟩:∃ v,w6.drew=v:=⟨_,rfl⟩
  rw [hwd] at hdr
  have hu:Upd (fun b=>b=ob) wd wz:=upd_then hz6 (Upd.of_below hdr fun _=>False) fun _ h=>h.elim
  have hbz:Below w5.heap.size w5 wz:=hb6.trans (hdr.mono hb6.size)
  have HVz:=Hi (HVd.out.ob' hu (HMS5.out.upd (Upd.of_below hbz fun _=>False) id) (Nat.le_succ m))
  have HXz:=Hi (HXd.out.upd hu HNO.out)
  have HUz:=Hi (in2_upd HUd.out (hu.mono fun b hb=>hb ▸ HVd.out.inN _ (by simp) ob rfl) (show w.heap.size≤wn.heap.size by have:=HSN.out;omega))
  have hsz:=hu.size
  have HQ2:=Hi (show Rs.ok { c with ou:=c.ou ++ [(s,decide (k = 9))] }=res from HRES.out)
  have HNV:=Hi (show ¬ (vo.ownBlock=some w.heap.size∨w.heap.size=g) from fun h=>by
   rcases h with h | h
   ·exact in2_ne (HVd.out.inN _ (by simp) _ h) HSN.out rfl
   ·exact in2_ne (HVd.out.inN _ (by simp) g rfl) HSN.out h)
  have HGV:=Hi HVd.out.ne.1.2.2.2.2.1
  clear hb6 hz6 hu hdr hbz HR hu5 hZ0 HRES HMS5 HX2 HC2 HU2 HB2 HX1 HC1 HU1 HB1 HX0 HC0 HU0 HB0
  have hZ0:Upd (fun b=>vo.ownBlock=some b∨b=g) wz wz:=Upd.refl _ _
  have hS0:Upd (fun b=>vo.ownBlock=some b) wz wz:=Upd.refl _ _
  obtain ⟨w4,hw4⟩:∃ v,wz.alloc (.cells #[.string ⟨s.toArray⟩,.bool false,.bool (k==9)] 44)=v:=⟨_,rfl⟩
  have hb4:Below wz.heap.size wz w4:=by rw [←hw4];exact (Below.refl _ _).alloc (Nat.le_refl _) _
  have hL4:Lies w4 (some ⟨wz.heap.size,0,none⟩) (laC (s,k==9)):=by rw [←hw4];exact lies_full _ _ _
  have ho4:w4.ownsRow lo 44 3 vo c.ou.length (c.ou.flatMap laC):=own_updV HVz.out.oo (Upd.of_below hb4 fun _=>False) fun _ _ h=>h
  have hlo4:lo≤w4.heap.size:=Nat.le_trans HVz.out.lo_.2.2.2 hb4.size
  have hou:c.ou.length+1≤1099511627776:=by have:=HBDD.out;have:=HM.out;omega
  have hz4:Upd (fun b=>vo.ownBlock=some b∨b=g) wz w4:=Upd.of_below hb4 _
  have hs4:Upd (fun b=>vo.ownBlock=some b) wz w4:=Upd.of_below hb4 _
  go_wp2_with fail
  refine HT.wp_region (Z:=fun w'=>Upd (fun b=>vo.ownBlock=some b∨b=g) wz w') (S:=fun w'=>Upd (fun b=>vo.ownBlock=some b) wz w') (st:=[17]) (by kernel_rfl) ?_
  rw [hwd]
  clear hwd
  refine HT.tm 0 rfl hZ0 (fun _=>hS0) ?_
  refine HT.tm 1 rfl hZ0 (fun _=>hS0) ?_
  refine HT.tm 2 rfl hZ0 (fun _=>hS0) ?_
  refine HT.tm 3 rfl hZ0 (fun _=>hS0) ?_
  refine HT.tm 4 rfl hZ0 (fun _=>hS0) ?_
  refine HT.ts 5 rfl (by intro v hSw;have hG:=HVz.out.blk.upd hSw HGV.out;have D_:=Blk.c6 hG;clear hSw hG;go_simp;try with_reducible rfl) hZ0 hS0 ?_
  refine HT.tk 6 rfl (by intro v hSw;have hA:=HXz.out.upd hSw HNV.out;have E_:=Blk.c6 hA;clear hSw hA;go_simp;try with_reducible rfl) hZ0 (fun _=>hS0) ?_
  refine HT.tk 7 rfl (by intro v hSw;have hA:=HXz.out.upd hSw HNV.out;have E_:=Blk.c6 hA;clear hSw hA;go_simp;try with_reducible rfl) hZ0 (fun _=>hS0) ?_
  refine HT.tk 8 rfl (by intro v hSw;have hA:=HXz.out.upd hSw HNV.out;have E_:=Blk.c6 hA;clear hSw hA;go_simp;try with_reducible rfl) hZ0 (fun _=>hS0) ?_
  refine HT.tk 9 rfl (by intro v hSw;have hA:=HXz.out.upd hSw HNV.out;have E_:=Blk.c6 hA;clear hSw hA;go_simp;try with_reducible rfl) hZ0 (fun _=>hS0) ?_
  refine HT.tk 10 rfl (by intro v hSw;have hA:=HXz.out.upd hSw HNV.out;have E_:=Blk.c6 hA;clear hSw hA;go_simp;try with_reducible rfl) hZ0 (fun _=>hS0) ?_
  refine HT.tk 11 rfl (by intro v hSw;have hA:=HXz.out.upd hSw HNV.out;have E_:=Blk.c6 hA;clear hSw hA;go_simp;try with_reducible rfl) hZ0 (fun _=>hS0) ?_
  refine HT.one (i:=12) (by kernel_rfl) rfl (fun K hK=>?_)
  go_simp
  (try rw [hw4])
  (try dsimp only)
  refine hK.out _ _ hz4 hs4 ?_
  clear hK K
  (try simp only [HT.pS])
  refine HT.one (i:=13) (by kernel_rfl) rfl (fun K hK=>?_)
  refine step_any rfl _ _ 27 rfl lo 44 i0 (.agg #[.string ⟨#[]⟩,.bool false,.bool false]) 3 24 Tryz.underlying27 HI.out HZ0.out HZ1.out HZ2.out rfl (by decide) vo c.ou.length _ rfl ho4 (some ⟨wz.heap.size,0,none⟩) 1 1 (laC (s,k==9)) rfl rfl hL4 (by simp [laC,Value.oneCell']) (by unfold maxLen;omega) (by omega) hlo4 ?_
  intro v' w8 hown hgrow hat
  obtain ⟨vA,vc,rfl⟩:=own_sl hown
  have hs8:Upd (fun b=>vo.ownBlock=some b) wz w8:=hs4.grown hgrow fun b hb _=>hb
  have hz8:Upd (fun b=>vo.ownBlock=some b∨b=g) wz w8:=hs8.mono fun b hb=>.inl hb
  (try dsimp only)
  refine hK.out _ _ hz8 hs8 ?_
  clear hK K
  (try simp only [HT.pS])
  refine HT.tm 14 rfl hz8 (fun _=>hs8) ?_
  refine HT.tm 15 rfl hz8 (fun _=>hs8) ?_
  refine HT.tm 16 rfl hz8 (fun _=>hs8) ?_
  have hG8:=HVz.out.blk.upd hs8 HGV.out
  obtain ⟨⟨c0,c1,c2,c3,c4,c5⟩,y0,y1,y2,y3,y4,y5⟩:=Blk.c6 hG8
  have hg8:=hG8.lt
  refine HT.oneS (i:=17) (by kernel_rfl) (by kernel_rfl) rfl (fun K hK=>?_)
  go_simp
  refine hK.out _ _ (hz8.setCell (p:=⟨g,2,none⟩) (fun _=>.inr rfl) _) ?_
  clear hK K
  (try simp only [HT.pS])
  refine HT.done (by kernel_rfl) ?_
  have hown':w8.ownsRow lo 44 3 (.slice vA (c.ou.length+1) vc) (c.ou ++ [(s,decide (k = 9))]).length ((c.ou ++ [(s,decide (k = 9))]).flatMap laC):=by
   rw [List.length_append,List.flatMap_append];exact hown
  have hat':(Value.slice vA (c.ou.length+1) vc).ownBlock=vo.ownBlock∨∃ n,wz.heap.size≤n∧(Value.slice vA (c.ou.length+1) vc).ownBlock=some n:=hat.imp id fun h=>⟨_,hb4.size,h⟩
  have hfin:=HVz.out.vo' hs8 hown' hat'
  rw [outF_snoc c.ou s (decide (k = 9))] at hfin
  have HEND:=Hi (show StatP N lo w g res (m+1) (.returned (.tuple #[])) (w8.setCell ⟨g,2,none⟩ (.slice vA (c.ou.length+1) vc)) from by
   rw [←HQ2.out]
   have hb:=HBDD.out
   refine ⟨rfl,⟨⟨vs,vp,_,ve,kb,ob,hfin.mono fun b hb _ _=>?_⟩,⟨Nat.le_succ_of_le hb.1,Nat.le_succ_of_le hb.2.1,by show (c.ou ++ [_]).length≤m+1;simp;omega,Nat.le_succ_of_le hb.2.2.2⟩,HENL.out⟩,?_⟩
   ·rcases hb with (h | h) | h
    ·exact .inl h.1
    ·exact .inr (by have:=HSN.out;omega)
    ·exact .inr (by have:=HUz.out.size;omega)
   ·refine in2_upd HUz.out ((hs8.mono (Y:=In2 N w wn) fun b hb=>HVz.out.inN _ (by simp) b hb).setCell (p:=⟨g,2,none⟩) (fun _=>HVz.out.inN _ (by simp) g rfl) _) (by have:=HSN.out;omega))
  clear hown hown' hat hat' hfin hgrow hs8 hz8 hG8 hz4 hs4 hw4 hb4 hL4 ho4 c0 c1 c2 c3 c4 c5 y0 y1 y2 y3 y4 y5 hg8 hZ0 hS0
  go_wp2_with fail
  first | go_end0 | skip
  all_goals first | exact HEND.out | exact bodyPost_ret (results_none rfl _ _ _) rfl HEND.out
theorem isN_has{w:World}{b n:Nat}{f:Bs→Bool}(h:MpS w b n f):IsN w 35 (.map (some b)) f:=
 ⟨fun _ _=>by kernel_rfl,fun v hv s hs=>has_ v b n f (h.upd (Upd.of_below hv fun _=>False) id) s hs⟩
theorem paB_cons(kn:Kn)(f:Bs)(sn:List Bs)(s:Bs)(l:List Bs):paB kn f sn (s :: l)=if (s==f || isB kn s [1] || sn.contains s)=true then false else paB kn f (sn ++ [s]) l:=rfl
theorem take_snoc{l:List Bs}{i:Nat}{p:Bs}(h:l[i]?=some p):l.take (i+1)=l.take i ++ [p]:=by
 rw [List.take_add_one,h];rfl
theorem has_snoc(l:List Bs)(p:Bs):(fun t=>l.contains t || t==p)=fun t=>(l ++ [p]).contains t:=by
 funext t
 by_cases h:t=p
 ·subst h;simp
 ·simp [h]
def fnB(a:Int)(s:Bs)(ps:List Bs)(l:List Tz)(c:St):Rs:=
 if namedB c.kn s=true then .bad a else if paB c.kn s [] ps=false then .bad a else exR (exBs (fun t=>ps.contains t) (callB c.kn) (l.take 1)) (.ok { c with kn:=c.kn.put s (1,ps.length) })
theorem function(w0 w:World)(N:Nat→Prop)(lo g:Nat)(c:St)(m:Nat)(k a:Int)(s:Bs)(n:Nat)(A:Option Addr)(cA:Nat)(B:Option Addr)(cB:Nat)(ps:List Bs)(l:List Tz)(css:List (List Value))(hb:Below w0.heap.size w0 w)(hL:Lies w0 A css.flatten)(hS:TsIz w0 l css)(hlc:l.length≤cA∧cA≤maxLen)
  (hB:Lies w0 B (ps.map strV)) (hps:ps.length≤maxLen) (hpl:∀ p∈ps,p.length≤maxLen) (hs:s.length≤maxLen) (hlz:lenzs l) (hN:∀ b,N b→w0.heap.size≤b) (hc:CK N lo w g c m) (hm:m+1≤1099511627776) :
  Calls Tryz.prog 69 #[.pointer (some ⟨g,0,none⟩),nzA k a s n A l.length cA B ps.length cB] w (StatP N lo w g (fnB a s ps l c) (m+1)):=by
 obtain ⟨wn,hwn,hbn,hXn,hsn⟩:=a_box w (nB k a s n A l.length cA B ps.length cB)
 have HC0:=Hi (in2_start hc hbn);have HU0:=Hi (Upd.of_below hbn N);have HX0:=Hi hXn;have HW:=Hi hwn;have HB0:=Hi (hb.trans (hbn.mono hb.size))
 have HL:=Hi hL;have HS:=Hi hS;have HLC:=Hi hlc;have HBB:=Hi hB;have HPL:=Hi hpl;have HPS:=Hi hps;have HLZ:=Hi hlz;have HM:=Hi hm;have HN:=Hi (in2_low (w:=w) hN (Nat.le_trans hb.size hbn.size));have HSN:=Hi hsn;have HB1:=Hi hb
 have hlm:l.length≤maxLen:=Nat.le_trans hlc.1 hlc.2
 have hpm:ps.length≤9223372036854775807:=hps
 obtain ⟨res,hres⟩:∃ res,fnB a s ps l c=res:=⟨_,rfl⟩
 rw [hres]
 have HRES:=Hi hres
 have hgl:=hXn.lt
 have hdr:Below wn.heap.size wn wn.drew:=Below.drew (Below.refl _ _)
 obtain ⟨wd,hwd⟩:∃ v,wn.drew=v:=⟨_,rfl⟩
 rw [hwd] at hdr
 have HXd:=Hi (HX0.out.below hdr HX0.out.lt);have HCd:=Hi (HC0.out.below hdr);have HUd:=Hi (upd_then HU0.out (Upd.of_below hdr fun _=>False) fun _ h=>h.elim);have HBd:=Hi (HB0.out.trans (hdr.mono HB0.out.size))
 have hsd:=hdr.size
 have hZ0:Below wd.heap.size wd wd:=Below.refl _ _
 have HIN:=Hi (isNamed wd g c.kn HCd.out.knp s hs)
 unfold fnB at HRES
 clear hc hbn hXn hwn hb hL hS hlz hm hN hlc hB hpl hps hres hsn hdr
 go_enter Tryz.func69,Tryz.ntmps69
 obtain ⟨⟨e0,e1,e2,e3,e4,e5⟩,z0,z1,z2,z3,z4,z5⟩:=Blk.c6 HX0.out
 go_wp2_with fail
 clear e0 e1 e2 e3 e4 e5 z0 z1 z2 z3 z4 z5
 rw [HW.out]
 refine HT.wp_region (Z:=fun w'=>Below wd.heap.size wd w') (S:=fun _=>True) (st:=[]) (by kernel_rfl) ?_
 rw [hwd]
 clear hwd
 refine HT.tk 0 rfl (by intro v hSw;have hA:=HXd.out.below hSw HXd.out.lt;have E_:=Blk.c6 hA;clear hSw hA;go_simp;try with_reducible rfl) hZ0 HT.tr ?_
 refine HT.tk 1 rfl (by intro v hSw;have hA:=HXd.out.below hSw HXd.out.lt;have E_:=Blk.c6 hA;clear hSw hA;go_simp;try with_reducible rfl) hZ0 HT.tr ?_
 refine HT.tk 2 rfl (by intro v hSw;have hA:=HXd.out.below hSw HXd.out.lt;have E_:=Blk.c6 hA;clear hSw hA;go_simp;try with_reducible rfl) hZ0 HT.tr ?_
 refine HT.tk 3 rfl (by intro v hSw;have hA:=HXd.out.below hSw HXd.out.lt;have E_:=Blk.c6 hA;clear hSw hA;go_simp;try with_reducible rfl) hZ0 HT.tr ?_
 refine HT.one (i:=4) (by kernel_rfl) rfl (fun K hK=>?_)
 go_simp
 refine HIN.out.mono ?_
 rintro e w5 ⟨rfl,hb5⟩
 (try dsimp only)
 refine hK.out _ _ hb5 trivial ?_
 clear hK K
 (try simp only [HT.pS])
 have HR:=Hi (refuse w5 k a s n A l.length cA B ps.length cB (namedB c.kn s))
 obtain ⟨q,hq⟩:∃ q,namedB c.kn s=q:=⟨_,rfl⟩
 rw [hq] at HR HRES ⊢
 clear HIN hq
 cases q with
 | true=>
  have HQ2:=Hi (show Rs.bad a=res from HRES.out)
  refine HT.one (i:=5) (by kernel_rfl) rfl (fun K hK=>?_)
  go_simp
  refine (show Calls Tryz.prog 83 #[nzA k a s n A l.length cA B ps.length cB,.bool true] w5 _ from HR.out).mono ?_
  rintro e w6 ⟨rfl,hb6⟩
  have HEND:=Hi (show StatP N lo w g res (m+1) (panW a) w6 from by rw [←HQ2.out];exact ⟨rfl,upd_then (upd_then HUd.out (Upd.of_below hb5 fun _=>False) fun _ h=>h.elim) (Upd.of_below hb6 fun _=>False) fun _ h=>h.elim⟩)
  clear hb6
  exact ⟨rfl,HEND.out⟩
 | false=>
 have HRES:Hid ((if paB c.kn s [] ps=false then .bad a else exR (exBs (fun t=>ps.contains t) (callB c.kn) (l.take 1)) (.ok { c with kn:=c.kn.put s (1,ps.length) }))=res):=Hi HRES.out
 refine HT.one (i:=5) (by kernel_rfl) rfl (fun K hK=>?_)
 go_simp
 refine (show Calls Tryz.prog 83 #[nzA k a s n A l.length cA B ps.length cB,.bool false] w5 _ from HR.out).mono ?_
 rintro e w6 ⟨rfl,hb6⟩
 have hz6:=hb5.trans (hb6.mono hb5.size)
 have HX6:=Hi (HXd.out.below hz6 HXd.out.lt);have HC6:=Hi (HCd.out.below hz6);have HU6:=Hi (upd_then HUd.out (Upd.of_below hz6 fun _=>False) fun _ h=>h.elim);have HB6:=Hi (HBd.out.trans (hz6.mono HBd.out.size))
 have hs6:=hz6.size
 clear hb6
 (try dsimp only)
 refine hK.out _ _ hz6 trivial ?_
 clear hK K
 (try simp only [HT.pS])
 refine HT.done (by kernel_rfl) ?_
 clear hb5 hz6 HR hZ0 HXd HCd HUd HBd HC0 HU0 HX0 HB0
 obtain ⟨wm,hwm⟩:∃ v,w6.alloc (.map #[] 0)=v:=⟨_,rfl⟩
 have hbm:Below w6.heap.size w6 wm:=by rw [←hwm];exact (Below.refl _ _).alloc (Nat.le_refl _) _
 have hmm:MpS wm w6.heap.size 0 (fun t=>(ps.take 0).contains t):=by rw [←hwm];exact MpS.made w6
 have hsm:wm.heap.size=w6.heap.size+1:=by rw [←hwm];simp
 have HXm:=Hi (HX6.out.below hbm HX6.out.lt);have HCm:=Hi (in2_start HC6.out hbm);have HUm:=Hi (upd_then HU6.out (Upd.of_below hbm fun _=>False) fun _ h=>h.elim);have HBm:=Hi (HB6.out.trans (hbm.mono HB6.out.size))
 have HMM:=Hi hmm;have HWM:=Hi hwm;have HSM:=Hi hsm
 obtain ⟨rp,hrp⟩:∃ rp,paB c.kn s [] ps=rp:=⟨_,rfl⟩
 have HRP:=Hi hrp
 rw [hrp] at HRES
 have HNM:=Hi (show ¬ w.heap.size=w6.heap.size by have:=HX6.out.lt;omega)
 have hlt6:=HX6.out.lt
 have hw06:=HB6.out.size
 clear hbm hmm hwm hrp hsm
 obtain ⟨⟨e0,e1,e2,e3,e4,e5⟩,z0,z1,z2,z3,z4,z5⟩:=Blk.c6 HXm.out
 have hmk:(Instr.makeMap 51 none).run Tryz.prog w6 = .ok (.map (some w6.heap.size)) wm:=by rw [←HWM.out];kernel_rfl
 go_wp2_with fail
 clear e0 e1 e2 e3 e4 e5 z0 z1 z2 z3 z4 z5
 go_loopw [19] (fun vi wr=>∃ i:Nat,i≤ps.length∧vi = .int .i64 (i:Int)∧Hid (CK (In2 (In2 N w wn) w6 wm) lo wr g c m)∧Hid (MpS wr w6.heap.size i (fun t=>(ps.take i).contains t))∧Hid (Upd N w wr)∧Hid (Below w0.heap.size w0 wr)∧Hid (Blk wr w.heap.size 26 (nB k a s n A l.length cA B ps.length cB))∧Hid (paB c.kn s (ps.take i) (ps.drop i)=rp)∧Hid (wm.heap.size≤wr.heap.size)) (fun vi _=>ps.length - (intOf vi).toNat)
 case atStart=>exact ⟨0,by omega,rfl,HCm,HMM,HUm,HBm,HXm,HRP,Hi (Nat.le_refl _)⟩
 case round=>
  obtain ⟨i,hi,rfl,HC,HMI,HU,HBE,HX,HQ,HSZ⟩:=hrel
  by_cases hlt:i < ps.length
  ·obtain ⟨p,hp⟩:∃ p,ps[i]?=some p:=⟨_,List.getElem?_eq_getElem hlt⟩
   have f1:(ps.map strV)[i]?=some (.string ⟨p.toArray⟩):=by rw [List.getElem?_map,hp];rfl
   obtain ⟨b,o,rfl,_,hc1⟩:=(HBB.out.below HBE.out).at_ f1
   have g1:=hc1 _ _ f1
   have hpp:=HPL.out p (List.mem_of_getElem? hp)
   have hq:=HQ.out
   rw [drop_at hp,paB_cons] at hq
   have HTS:=Hi (take_snoc hp)
   have hdr:Below wr.heap.size wr wr.drew:=Below.drew (Below.refl _ _)
   obtain ⟨wd,hwd⟩:∃ v,wr.drew=v:=⟨_,rfl⟩
   rw [hwd] at hdr
   have HXd:=Hi (HX.out.below hdr HX.out.lt);have HCd:=Hi (HC.out.below hdr);have HUd:=Hi (upd_then HU.out (Upd.of_below hdr fun _=>False) fun _ h=>h.elim);have HBd:=Hi (HBE.out.trans (hdr.mono HBE.out.size));have HMd:=Hi (HMI.out.upd (Upd.of_below hdr fun _=>False) id)
   have hsd:=hdr.size
   have hZ0:Upd (fun b=>b=w6.heap.size) wd wd:=Upd.refl _ _
   obtain ⟨w4,hw4,hb4,hL4⟩:=sorts_box wd [1]
   have HW4:=Hi hw4
   have HIS:=Hi (is_ w4 g c.kn (HCd.out.knp.below hb4) p hpp _ 1 [1] hL4 (by decide))
   have hz4:Upd (fun b=>b=w6.heap.size) wd w4:=Upd.of_below hb4 _
   have HB4:=Hi hb4
   have HPAN:=Hi fun (v v2:World) (h:Upd (fun b=>b=w6.heap.size) wd v) (h2:Below v.heap.size v v2)=>upd_then (upd_then HUd.out h fun b hb hlt=>by omega) (Upd.of_below h2 fun _=>False) fun _ h=>h.elim
   clear hc1 f1 hp HQ hdr hw4 hL4 hb4
   go_wp2_with fail
   clear g1
   refine HT.wp_region (Z:=fun w'=>Upd (fun b=>b=w6.heap.size) wd w') (S:=fun _=>True) (st:=[]) (by kernel_rfl) ?_
   rw [hwd]
   clear hwd
   refine HT.tk 0 rfl (by intro v hSw;have hA:=HXd.out.upd hSw HNM.out;have E_:=Blk.c6 hA;clear hSw hA;go_simp;try with_reducible rfl) hZ0 HT.tr ?_
   refine HT.tk 1 rfl (by intro v hSw;have hA:=HXd.out.upd hSw HNM.out;have E_:=Blk.c6 hA;clear hSw hA;go_simp;try with_reducible rfl) hZ0 HT.tr ?_
   refine HT.tk 2 rfl (by intro v hSw;have hA:=HXd.out.upd hSw HNM.out;have E_:=Blk.c6 hA;clear hSw hA;go_simp;try with_reducible rfl) hZ0 HT.tr ?_
   refine HT.tk 3 rfl (by intro v hSw;have hA:=HXd.out.upd hSw HNM.out;have E_:=Blk.c6 hA;clear hSw hA;go_simp;try with_reducible rfl) hZ0 HT.tr ?_
   by_cases hpf:p=s
   ·subst hpf
    have hb1:(p==p)=true:=by simp
    have HQ:Hid (false=rp):=Hi (by rw [←hq,if_pos (by simp)])
    clear hq hb1
    refine HT.tm 4 rfl hZ0 HT.tr ?_
    refine HT.tm 5 rfl hZ0 HT.tr ?_
    refine HT.sk 6 rfl hZ0 HT.tr ?_
    refine HT.sk 7 rfl hZ0 HT.tr ?_
    refine HT.sk 8 rfl hZ0 HT.tr ?_
    refine HT.sk 9 rfl hZ0 HT.tr ?_
    refine HT.tm 10 rfl hZ0 HT.tr ?_
    refine HT.tm 11 rfl hZ0 HT.tr ?_
    refine HT.sk 12 rfl hZ0 HT.tr ?_
    refine HT.sk 13 rfl hZ0 HT.tr ?_
    refine HT.sk 14 rfl hZ0 HT.tr ?_
    refine HT.sk 15 rfl hZ0 HT.tr ?_
    refine HT.tm 16 rfl hZ0 HT.tr ?_
    have HQ2:=Hi (show Rs.bad a=res from by rw [←HRES.out,←HQ.out];rfl)
    refine HT.one (i:=17) (by kernel_rfl) rfl (fun K hK=>?_)
    go_simp
    refine (show Calls Tryz.prog 83 #[nzA k a p n A l.length cA (some ⟨b,o,none⟩) ps.length cB,.bool true] wd _ from (refuse wd k a p n A l.length cA (some ⟨b,o,none⟩) ps.length cB true)).mono ?_
    rintro e wy ⟨rfl,hby⟩
    have HEND:=Hi (show StatP N lo w g res (m+1) (panW a) wy from by rw [←HQ2.out];exact ⟨rfl,HPAN.out _ _ hZ0 hby⟩)
    clear hby
    exact ⟨rfl,HEND.out⟩
   have hb1:(p==s)=false:=by simpa using hpf
   have hq2:(if (isB c.kn p [1] || (ps.take i).contains p)=true then false else paB c.kn s (ps.take i ++ [p]) (ps.drop (i+1)))=rp:=by rw [←hq,hb1,Bool.false_or]
   clear hq hpf
   refine HT.tm 4 rfl hZ0 HT.tr ?_
   refine HT.tm 5 rfl hZ0 HT.tr ?_
   refine HT.tm 6 rfl hZ0 HT.tr ?_
   refine HT.tm 7 rfl hZ0 HT.tr ?_
   refine HT.one (i:=8) (by kernel_rfl) rfl (fun K hK=>?_)
   go_simp
   rw [show wd.alloc (.cells #[.int .i64 1] 56)=w4 from HW4.out]
   (try dsimp only)
   refine hK.out _ _ hz4 trivial ?_
   clear hK K
   (try simp only [HT.pS])
   refine HT.one (i:=9) (by kernel_rfl) rfl (fun K hK=>?_)
   go_simp
   refine (show Calls Tryz.prog 86 #[.pointer (some ⟨g,0,none⟩),.string ⟨p.toArray⟩,.slice (some ⟨wd.heap.size,0,none⟩) 1 1] w4 _ from HIS.out).mono ?_
   rintro e w5 ⟨rfl,hb5⟩
   have hbb5:=HB4.out.trans (hb5.mono HB4.out.size)
   have hz5:Upd (fun b=>b=w6.heap.size) wd w5:=Upd.of_below hbb5 _
   (try dsimp only)
   refine hK.out _ _ hz5 trivial ?_
   clear hK K
   (try simp only [HT.pS])
   obtain ⟨q,hqq⟩:∃ q,isB c.kn p [1]=q:=⟨_,rfl⟩
   rw [hqq] at hq2 ⊢
   clear HIS hqq hz4
   cases q with
   | true=>
    have HQ:Hid (false=rp):=Hi (by rw [←hq2,if_pos (by simp)])
    clear hq2
    refine HT.tm 10 rfl hz5 HT.tr ?_
    refine HT.tm 11 rfl hz5 HT.tr ?_
    refine HT.sk 12 rfl hz5 HT.tr ?_
    refine HT.sk 13 rfl hz5 HT.tr ?_
    refine HT.sk 14 rfl hz5 HT.tr ?_
    refine HT.sk 15 rfl hz5 HT.tr ?_
    refine HT.tm 16 rfl hz5 HT.tr ?_
    have HQ2:=Hi (show Rs.bad a=res from by rw [←HRES.out,←HQ.out];rfl)
    refine HT.one (i:=17) (by kernel_rfl) rfl (fun K hK=>?_)
    go_simp
    refine (show Calls Tryz.prog 83 #[nzA k a s n A l.length cA (some ⟨b,o,none⟩) ps.length cB,.bool true] w5 _ from (refuse w5 k a s n A l.length cA (some ⟨b,o,none⟩) ps.length cB true)).mono ?_
    rintro e wy ⟨rfl,hby⟩
    have HEND:=Hi (show StatP N lo w g res (m+1) (panW a) wy from by rw [←HQ2.out];exact ⟨rfl,HPAN.out _ _ hz5 hby⟩)
    clear hby
    exact ⟨rfl,HEND.out⟩
   | false=>
    have hq3:(if (ps.take i).contains p=true then false else paB c.kn s (ps.take i ++ [p]) (ps.drop (i+1)))=rp:=by rw [←hq2,Bool.false_or]
    have HAD:=Hi (add_ w5 w6.heap.size i _ (HMd.out.upd (Upd.of_below hbb5 fun _=>False) id) (by unfold maxLen;omega) p hpp)
    unfold AddP at HAD
    obtain ⟨q,hqq⟩:∃ q,(ps.take i).contains p=q:=⟨_,rfl⟩
    have HQQ:=Hi hqq
    simp only [hqq] at HAD hq3
    clear hq2 hqq
    refine HT.tm 10 rfl hz5 HT.tr ?_
    refine HT.tm 11 rfl hz5 HT.tr ?_
    refine HT.tm 12 rfl hz5 HT.tr ?_
    refine HT.tm 13 rfl hz5 HT.tr ?_
    refine HT.one (i:=14) (by kernel_rfl) rfl (fun K hK=>?_)
    go_simp
    refine (show Calls Tryz.prog 23 #[.map (some w6.heap.size),.string ⟨p.toArray⟩] w5 _ from HAD.out).mono ?_
    rintro e w7 ⟨rfl,hms7,hu7⟩
    have hz7:Upd (fun b=>b=w6.heap.size) wd w7:=hz5.trans hu7
    (try dsimp only)
    refine hK.out _ _ hz7 trivial ?_
    clear hK K
    (try simp only [HT.pS])
    have HMS:=Hi hms7
    clear hms7 HAD
    cases q with
    | true=>
     have HQ:Hid (false=rp):=Hi (by rw [←hq3];rfl)
     clear hq3
     refine HT.tm 15 rfl hz7 HT.tr ?_
     refine HT.tm 16 rfl hz7 HT.tr ?_
     have HQ2:=Hi (show Rs.bad a=res from by rw [←HRES.out,←HQ.out];rfl)
     refine HT.one (i:=17) (by kernel_rfl) rfl (fun K hK=>?_)
     go_simp
     refine (show Calls Tryz.prog 83 #[nzA k a s n A l.length cA (some ⟨b,o,none⟩) ps.length cB,.bool true] w7 _ from (refuse w7 k a s n A l.length cA (some ⟨b,o,none⟩) ps.length cB true)).mono ?_
     rintro e wy ⟨rfl,hby⟩
     have HEND:=Hi (show StatP N lo w g res (m+1) (panW a) wy from by rw [←HQ2.out];exact ⟨rfl,HPAN.out _ _ hz7 hby⟩)
     clear hby
     exact ⟨rfl,HEND.out⟩
    | false=>
     have HQ:Hid (paB c.kn s (ps.take i ++ [p]) (ps.drop (i+1))=rp):=Hi (by rw [←hq3];rfl)
     clear hq3
     refine HT.tm 15 rfl hz7 HT.tr ?_
     refine HT.tm 16 rfl hz7 HT.tr ?_
     refine HT.one (i:=17) (by kernel_rfl) rfl (fun K hK=>?_)
     go_simp
     refine (show Calls Tryz.prog 83 #[nzA k a s n A l.length cA (some ⟨b,o,none⟩) ps.length cB,.bool false] w7 _ from (refuse w7 k a s n A l.length cA (some ⟨b,o,none⟩) ps.length cB false)).mono ?_
     rintro e w8 ⟨rfl,hb8⟩
     have hz8:Upd (fun b=>b=w6.heap.size) wd w8:=upd_then hz7 (Upd.of_below hb8 fun _=>False) fun _ h=>h.elim
     have hnm:∀ b,In2 (In2 N w wn) w6 wm b→¬ b=w6.heap.size:=fun b hb e=>in2_ne hb HSM.out e.symm
     have HC8:=Hi (HCd.out.far hz8 hnm);have HX8:=Hi (HXd.out.upd hz8 HNM.out);have HU8:=Hi (upd_then HUd.out hz8 fun b hb hlt=>by omega);have HB8:=Hi (below_low HBd.out hz8 fun b hb=>by omega)
     have HM8:Hid (MpS w8 w6.heap.size (i+1) (fun t=>(ps.take (i+1)).contains t)):=Hi (by
      have:=HMS.out.upd (Upd.of_below hb8 fun _=>False) id
      rw [has_snoc] at this
      rw [HTS.out];exact this)
     have HQ3:Hid (paB c.kn s (ps.take (i+1)) (ps.drop (i+1))=rp):=Hi (by rw [HTS.out];exact HQ.out)
     have HSZ8:=Hi (show wm.heap.size≤w8.heap.size by have:=hz8.size;have:=HSZ.out;omega)
     clear hb8 hnm
     (try dsimp only)
     refine hK.out _ _ hz8 trivial ?_
     clear hK K
     (try simp only [HT.pS])
     refine HT.done (by kernel_rfl) ?_
     clear hz8 hz7 hz5 hu7 hb5 hbb5 hZ0
     go_wp2_with fail
     go_roundw
     case rel=>exact ⟨i+1,by omega,by go_num,HC8,HM8,HU8,HB8,HX8,HQ3,HSZ8⟩
     case measure=>simp [intOf];omega
  ·obtain rfl:i=ps.length:=by omega
   have hq:=HQ.out
   rw [List.drop_length] at hq
   have hrp:rp=true:=hq.symm
   subst hrp
   have HRES:Hid (exR (exBs (fun t=>ps.contains t) (callB c.kn) (l.take 1)) (.ok { c with kn:=c.kn.put s (1,ps.length) })=res):=Hi HRES.out
   have HMI:Hid (MpS wr w6.heap.size ps.length (fun t=>ps.contains t)):=Hi (by have:=HMI.out;rwa [List.take_length] at this)
   clear hq HQ HRP
   have HCU:=Hi (cut_ wr A l.length cA 1 HLC.out.1 HLC.out.2 (by decide))
   obtain ⟨⟨e0,e1,e2,e3,e4,e5⟩,z0,z1,z2,z3,z4,z5⟩:=Blk.c6 HX.out
   go_wp2_with fail
   refine (show Calls Tryz.prog 87 #[.slice A l.length cA,.int .i64 1] wr _ from HCU.out).mono ?_
   intro e w1 hcp
   obtain ⟨A1,c1,A2,c2,css1,css2,rfl,hL1,hS1,_,_,hb1⟩:=cut_parts hcp HL.out HS.out
   have HX1:=Hi (HX.out.below hb1 HX.out.lt);have HC1:=Hi (HC.out.below hb1);have HU1:=Hi (upd_then HU.out (Upd.of_below hb1 fun _=>False) fun _ h=>h.elim);have HBW1:=Hi (HBE.out.trans (hb1.mono HBE.out.size))
   have hs1:=hb1.size
   have HEX:=Hi (exprs w0 w1 g c.kn _ _ _ A1 c1 (l.take 1) css1 HBW1.out hL1 hS1 (Nat.le_trans (by rw [List.length_take];omega) hlm) (lenzs_take 1 HLZ.out).1 HC1.out.knp (isN_has (HMI.out.upd (Upd.of_below hb1 fun _=>False) id)))
   clear hcp hL1 hS1 hb1 HCU e0 e1 e2 e3 e4 e5 z0 z1 z2 z3 z4 z5
   obtain ⟨⟨e0,e1,e2,e3,e4,e5⟩,z0,z1,z2,z3,z4,z5⟩:=Blk.c6 HX1.out
   generalize exBs (fun t=>ps.contains t) (callB c.kn) (l.take 1)=r1 at HEX HRES
   generalize (l.take 1).length=n1 at HEX
   generalize (l.drop 1).length=n2
   go_wp2_with fail
   refine (show Calls Tryz.prog 88 #[.pointer (some ⟨g,0,none⟩),.func (.func 35) #[.map (some w6.heap.size)] #[],.slice A1 n1 c1] w1 _ from HEX.out).mono ?_
   intro e w2 h2
   cases r1 with
   | some a1=>
    obtain ⟨rfl,hb2⟩:=h2
    have HEND:=Hi (show StatP N lo w g res (m+1) (panW a1) w2 from by rw [←HRES.out];exact ⟨rfl,upd_then HU1.out (Upd.of_below hb2 fun _=>False) fun _ h=>h.elim⟩)
    clear hb2
    go_wp2_with fail
    exact ⟨rfl,HEND.out⟩
   | none=>
   obtain ⟨rfl,hb2⟩:=h2
   have HQ2:=Hi (show Rs.ok { c with kn:=c.kn.put s (1,ps.length) }=res from HRES.out)
   have hdr:Below w2.heap.size w2 w2.drew:=Below.drew (Below.refl _ _)
   obtain ⟨wd,hwd⟩:∃ v,w2.drew=v:=⟨_,rfl⟩
   rw [hwd] at hdr
   have hb1d:=hb2.trans (hdr.mono hb2.size)
   have HXd:=Hi (HX1.out.below hb1d HX1.out.lt);have HUd:=Hi (upd_then HU1.out (Upd.of_below hb1d fun _=>False) fun _ h=>h.elim)
   obtain ⟨⟨vs,vp,vo,ve,kb,ob,hv⟩,hbd⟩:=HC1.out.below hb1d
   have hsd:=hb1d.size
   obtain ⟨w9,hrun,hm9,ht9⟩:=hv.mp.put (s:=s) hs (big_lt HM.out) (1,ps.length) (by show 1≤3;decide) HPS.out
   have hrun':(Instr.mapUpdate 59 (.map (some kb)) (.string ⟨s.toArray⟩) (.agg #[.int .i64 1,.int .i64 (ps.length:Int)])).run Tryz.prog wd = .ok () w9:=hrun
   have hz9:Upd (fun b=>b=kb) wd w9:=turned_upd ht9 rfl
   have hZ0:Upd (fun b=>b=kb) wd wd:=Upd.refl _ _
   have HVd:=Hi hv;have HBDD:=Hi hbd;have HM9:=Hi hm9
   have HGK:=Hi hv.ne.1.1
   have hin:In2 N w wn kb:=(hv.inN _ (by simp) kb rfl).elim (fun h=>h.1) fun h=>.inr (by have:=HSM.out;omega)
   have HNK:=Hi (in2_ne hin HSN.out);have HIN:=Hi hin
   clear hb2 hdr hb1d hv hbd hrun hm9 ht9 hin e0 e1 e2 e3 e4 e5 z0 z1 z2 z3 z4 z5
   go_wp2_with fail
   refine HT.wp_region (Z:=fun w'=>Upd (fun b=>b=kb) wd w') (S:=fun _=>True) (st:=[]) (by kernel_rfl) ?_
   rw [hwd]
   clear hwd
   refine HT.tk 0 rfl (by intro v hSw;have hA:=HXd.out.upd hSw HNK.out;have hG:=HVd.out.blk.upd hSw HGK.out;have E_:=Blk.c6 hA;have D_:=Blk.c6 hG;clear hSw hA hG;go_simp;try with_reducible rfl) hZ0 HT.tr ?_
   refine HT.tk 1 rfl (by intro v hSw;have hA:=HXd.out.upd hSw HNK.out;have hG:=HVd.out.blk.upd hSw HGK.out;have E_:=Blk.c6 hA;have D_:=Blk.c6 hG;clear hSw hA hG;go_simp;try with_reducible rfl) hZ0 HT.tr ?_
   refine HT.tk 2 rfl (by intro v hSw;have hA:=HXd.out.upd hSw HNK.out;have hG:=HVd.out.blk.upd hSw HGK.out;have E_:=Blk.c6 hA;have D_:=Blk.c6 hG;clear hSw hA hG;go_simp;try with_reducible rfl) hZ0 HT.tr ?_
   refine HT.tk 3 rfl (by intro v hSw;have hA:=HXd.out.upd hSw HNK.out;have hG:=HVd.out.blk.upd hSw HGK.out;have E_:=Blk.c6 hA;have D_:=Blk.c6 hG;clear hSw hA hG;go_simp;try with_reducible rfl) hZ0 HT.tr ?_
   refine HT.tk 4 rfl (by intro v hSw;have hA:=HXd.out.upd hSw HNK.out;have hG:=HVd.out.blk.upd hSw HGK.out;have E_:=Blk.c6 hA;have D_:=Blk.c6 hG;clear hSw hA hG;go_simp;try with_reducible rfl) hZ0 HT.tr ?_
   refine HT.tk 5 rfl (by intro v hSw;have hA:=HXd.out.upd hSw HNK.out;have hG:=HVd.out.blk.upd hSw HGK.out;have E_:=Blk.c6 hA;have D_:=Blk.c6 hG;clear hSw hA hG;go_simp;try with_reducible rfl) hZ0 HT.tr ?_
   refine HT.tk 6 rfl (by intro v hSw;have hA:=HXd.out.upd hSw HNK.out;have hG:=HVd.out.blk.upd hSw HGK.out;have E_:=Blk.c6 hA;have D_:=Blk.c6 hG;clear hSw hA hG;go_simp;try with_reducible rfl) hZ0 HT.tr ?_
   refine HT.tk 7 rfl (by intro v hSw;have hA:=HXd.out.upd hSw HNK.out;have hG:=HVd.out.blk.upd hSw HGK.out;have E_:=Blk.c6 hA;have D_:=Blk.c6 hG;clear hSw hA hG;go_simp;try with_reducible rfl) hZ0 HT.tr ?_
   refine HT.tk 8 rfl (by intro v hSw;have hA:=HXd.out.upd hSw HNK.out;have hG:=HVd.out.blk.upd hSw HGK.out;have E_:=Blk.c6 hA;have D_:=Blk.c6 hG;clear hSw hA hG;go_simp;try with_reducible rfl) hZ0 HT.tr ?_
   refine HT.tk 9 rfl (by intro v hSw;have hA:=HXd.out.upd hSw HNK.out;have hG:=HVd.out.blk.upd hSw HGK.out;have E_:=Blk.c6 hA;have D_:=Blk.c6 hG;clear hSw hA hG;go_simp;try with_reducible rfl) hZ0 HT.tr ?_
   refine HT.one (i:=10) (by kernel_rfl) rfl (fun K hK=>?_)
   go_simp
   (try dsimp only)
   refine hK.out _ _ hz9 trivial ?_
   clear hK K
   (try simp only [HT.pS])
   refine HT.done (by kernel_rfl) ?_
   have hfin:=HVd.out.kn' hz9 HM9.out (Nat.le_succ m)
   have HEND:=Hi (show StatP N lo w g res (m+1) (.returned (.tuple #[])) w9 from by
    rw [←HQ2.out]
    have hb:=HBDD.out
    refine ⟨rfl,⟨⟨vs,vp,vo,ve,kb,ob,hfin.mono fun b hb _ _=>?_⟩,⟨Nat.le_succ_of_le hb.1,Nat.le_succ_of_le hb.2.1,Nat.le_succ_of_le hb.2.2.1,Nat.le_succ_of_le hb.2.2.2⟩,HC1.out.enl⟩,?_⟩
    ·rcases hb with h | h
     ·exact h.1.imp (fun h=>h.1) fun h=>by have:=HSN.out;omega
     ·exact .inr (by have:=HSM.out;omega)
    ·exact in2_upd HUd.out (hz9.mono fun b hb=>hb ▸ HIN.out) (by have:=HSN.out;omega))
   clear hfin hz9 hrun' hZ0
   go_wp2_with fail
   first | go_end0 | skip
   all_goals first | exact HEND.out | exact bodyPost_ret (results_none rfl _ _ _) rfl HEND.out
structure UsJ(lo bl bs:Nat)(N:Nat→Prop)(w:World)(st:List Bs×Nat):Prop where
 ex:∃ v sb,Blk w bl 24 #[v]∧w.ownsRow lo 9 1 v st.1.length (st.1.map strV)∧Blk w bs 51 #[.map (some sb)]∧MpS w sb st.2 (fun t=>st.1.contains t)∧N bl∧N sb∧(∀ b,v.ownBlock=some b→N b) ∧
  v.ownBlock≠some bl∧v.ownBlock≠some bs∧v.ownBlock≠some sb∧sb≠bl∧sb≠bs
 ne:bl≠bs∧lo≤w.heap.size
 few:st.1.length≤st.2
theorem UsJ.far{lo bl bs:Nat}{N X:Nat→Prop}{w w':World}{st:List Bs×Nat}(h:UsJ lo bl bs N w st)(hu:Upd X w w')(hX:∀ b,X b→w.heap.size≤b):UsJ lo bl bs N w' st:=by
 obtain ⟨⟨v,sb,h1,h2,h3,h4,h5⟩,hn,hf⟩:=h
 refine ⟨⟨v,sb,h1.upd hu fun h=>by have:=hX _ h;have:=h1.lt;omega,own_updV h2 hu fun b hb h=>by have:=hX _ h;have:=own_atV h2 b hb;omega,h3.upd hu fun h=>by have:=hX _ h;have:=h3.lt;omega,h4.upd hu fun h=>by have:=hX _ h;have:=h4.lt;omega,h5⟩,⟨hn.1,Nat.le_trans hn.2 hu.size⟩,hf⟩
theorem UsJ.mono{lo bl bs:Nat}{N N':Nat→Prop}{w:World}{st:List Bs×Nat}(h:UsJ lo bl bs N w st)(hN:∀ b,N b→b < w.heap.size→N' b):UsJ lo bl bs N' w st:=by
 obtain ⟨⟨v,sb,h1,h2,h3,h4,h5,h6,h7,h8⟩,hn,hf⟩:=h
 exact ⟨⟨v,sb,h1,h2,h3,h4,hN _ h5 h1.lt,hN _ h6 h4.lt,fun b hb=>hN _ (h7 b hb) (own_atV h2 b hb).2,h8⟩,hn,hf⟩
end Go.Proofs.YtpoepignpdfleaaGreatDoor.Nm
