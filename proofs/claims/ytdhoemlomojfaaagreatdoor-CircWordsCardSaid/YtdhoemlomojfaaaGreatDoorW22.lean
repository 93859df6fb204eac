/- DERIVED. FlOu, FlSs. By an AI agent. -/
import Derived.Test.YtdhoemlomojfaaaGreatDoorW01
import Derived.Test.YtdhoemlomojfaaaGreatDoorW03
import Derived.Test.YtdhoemlomojfaaaGreatDoorW17
import Derived.Test.YtdhoemlomojfaaaGreatDoorW21
import Derived.Test.YtdhoemlomojfaaaGreatDoorW19
set_option maxRecDepth 100000
set_option maxHeartbeats 8000000
set_option linter.unusedVariables false
set_option linter.unusedSimpArgs false
namespace Go.Proofs.YtdhoemlomojfaaaGreatDoor.Fl
open Go Go.ChangeShapes Go.WideShapes Go.ChangeAt Go.RowKit Lx Args Pa Sh Go.Proofs.YtdhoemlomojfaaaGreatDoor.Nm
def outR(fu:Fu)(k a:Int)(s:Bs)(l:List Tz)(c:Sf):Rf Sf:=
 bndF (hdB l c.nd (xC fu 61 c.kn)) fun q=>if q.1=true∧k = 9 then .bad a 130 else .ok { c with nd:=q.2,ou:=c.ou ++ [(s,q.1,decide (k = 9))] }
def Nw(vl vl':Value)(w:World):Prop:=vl'.ownBlock=vl.ownBlock∨∃ n,w.heap.size≤n∧vl'.ownBlock=some n
def OuP(w0 w:World)(G:Gx)(vl:Value)(fu:Fu)(k0:Kw)(fm:Kw)(m:Nat)(r:Rf Sf)(e:Ending)(w':World):Prop:=
 match r with
 | .ok c=>e = .returned (.tuple #[])∧∃ vl',CG w0 w' G vl' fu k0 c fm (m+1)∧Nw vl vl' w∧Upd (fun b=>b=G.g∨vl.ownBlock=some b) w w'
 | .bad a er=>e=panF a er∧Upd (fun b=>b=G.g∨vl.ownBlock=some b) w w'
theorem fst3{w:World}{g:Nat}{t:TypeId}{a b c:Value}(H:Blk w g t #[a,b,c]):w.cell? ⟨g,0,none⟩=some a∧w.cell? ⟨g,1,none⟩=some b∧w.cell? ⟨g,2,none⟩=some c∧w.frozen? ⟨g,0,none⟩=false∧w.frozen? ⟨g,1,none⟩=false∧w.frozen? ⟨g,2,none⟩=false:=
 ⟨H.cell 0,H.cell 1,H.cell 2,H.frozen 0,H.frozen 1,H.frozen 2⟩
structure OuI(w0 w wx:World)(G:Gx)(vl:Value)(fu:Fu)(k0:Kw)(c:Sf)(fm:Kw)(m:Nat)(lb:Nat)(s:Bs)(sc sh:Bool)(nd:Int)(nb:Array Value):Prop where
 cg:CG w0 wx G vl fu k0 { c with nd:=nd } fm m
 lab:Blk wx lb 158 #[.string ⟨s.toArray⟩,.bool sc,.bool sh]
 nod:Blk wx w.heap.size 62 nb
 upd:Upd (fun b=>b=G.g) w wx
 new:w.heap.size < lb
theorem upd_new{X:Nat→Prop}{w w1 w2:World}(h:Upd X w w1){lb:Nat}(hl:w.heap.size≤lb)(h2:Upd (fun b=>b=lb) w1 w2):Upd X w w2:=upd_then h h2 fun b hb hlt=>by omega
theorem CG.far1{w0 w w':World}{G:Gx}{vl:Value}{fu:Fu}{k0:Kw}{c:Sf}{fm:Kw}{m:Nat}(h:CG w0 w G vl fu k0 c fm m){lb:Nat}(hu:Upd (fun b=>b=lb) w w')(hl:¬ ow G vl lb)(hf:G.fb≠lb)(hlo:w0.heap.size≤lb):CG w0 w' G vl fu k0 c fm m:=by
 refine ⟨h.blk.upd hu fun e=>hl (.inl e.symm),h.kno.upd hu fun e=>hl (.inr (.inl e.symm)),h.fre.upd hu fun e=>hl (.inr (.inr (.inl e.symm))),h.frk,h.dom,?_,Nm.own_updV h.lab hu fun b hb e=>hl (.inr (.inr (.inr (e ▸ hb)))),h.dis,h.low,h.oub,h.rdb,h.bel.trans (hu.below (B:=w0.heap.size) h.bel.size fun b hb=>hb ▸ hlo),h.fok⟩;obtain ⟨mf,hm⟩:=h.fun_;exact ⟨mf,hm.upd hu hf⟩
theorem output_{w0:World}(w:World)(G:Gx)(vl:Value)(fu:Fu)(k0:Kw)(c:Sf)(fm:Kw)(m:Nat)(hG:CG w0 w G vl fu k0 c fm m)(hm:m+1≤1099511627776)(ps:List Bs)(l:List Tz)(k a:Int)(s:Bs)(n:Nat)(A:Option Addr)(la cA:Nat)(B:Option Addr)(lb cB:Nat)(hT:TrV w0 (.mk k a s n ps l) k a s n A la cA B lb cB)(hok:okCs fu (l.take 1)) :
  Calls Tryz.prog 77 #[.pointer (some ⟨G.g,0,none⟩),nzA k a s n A la cA B lb cB] w (OuP w0 w G vl fu k0 fm m (outR fu k a s l c)):=by
 obtain ⟨i0,hi,hz⟩:=Option.map_eq_some_iff.1 infoL;have hz0:=congrArg (·.1) hz;have hz1:=congrArg (·.2.1) hz;have hz2:=congrArg (·.2.2) hz;have HI:=Hi hi;have HZ0:=Hi hz0;have HZ1:=Hi hz1;have HZ2:=Hi hz2;clear hi hz hz0 hz1 hz2;obtain ⟨wn,hwn,hbn,hXn,hsn⟩:=a_box w (nB k a s n A la cA B lb cB);have hdr:Below wn.heap.size wn wn.drew:=Below.drew (Below.refl _ _);obtain ⟨wd,hwd⟩:∃ u,wn.drew=u:=⟨_,rfl⟩;rw [hwd] at hdr;have hbd:=hbn.trans (hdr.mono hbn.size);have hsd:wd.heap.size=w.heap.size+1:=by rw [←hwd];exact hsn
 have HGd:=Hi (hG.below hbd);have HXd:=Hi (hXn.below hdr hXn.lt);have HUd:=Hi (Upd.of_below hbd (fun b=>b=G.g));have HW:=Hi hwn;have HWD:=Hi hwd;have HSD:=Hi hsd;have HTT:=Hi hT;have HOK:=Hi hok;have HM:=Hi hm;have HOW:=Hi hG.lt;have HNX:=Hi (show ¬ w.heap.size=G.g from by have:=hG.lt _ (.inl rfl);omega);obtain ⟨rv,hrv⟩:∃ rv,hdB l c.nd (xC fu 61 c.kn)=rv:=⟨_,rfl⟩;obtain ⟨res,hres⟩:∃ res,outR fu k a s l c=res:=⟨_,rfl⟩;rw [hres];unfold outR at hres;rw [hrv] at hres;have HRES:=Hi hres;have HRV:=Hi hrv;have hkk:(k==9)=decide (k = 9):=by rw [Bool.eq_iff_iff];simp
 obtain ⟨sh,hsh⟩:∃ sh,(k==9)=sh:=⟨_,rfl⟩;have HSH:=Hi (show decide (k = 9)=sh from hkk.symm.trans hsh);clear hG hT hok hwn hbn hXn hsn hdr hwd hbd hsd hres hrv hm hkk;go_enter Tryz.func77,Tryz.ntmps77;go_upto_region 1 with fail
 rw [HW.out]
 go_cut [4] from 5 to 13 (fun s4 wx=>∃ (lb0:Nat) (sc:Bool) (nd:Int),s4 = .pointer (some ⟨lb0,0,none⟩)∧Hid (OuI w0 w wx G vl fu k0 c fm m lb0 s sc sh nd (nB k a s n A la cA B lb cB))∧Hid (rv = .ok (sc,nd)))
 case first=>
  have hwd:=HWD.out;have hZ0:Upd (fun b=>b=G.g) wd wd:=Upd.refl _ _;refine HT.wp_region (Z:=fun w'=>Upd (fun b=>b=G.g) wd w') (S:=fun _=>True) (st:=[]) (by kernel_rfl) ?_;rw [hwd];clear hwd;refine HT.tk 0 rfl (by intro v hSw;have hA:=HXd.out.upd hSw HNX.out;have E_:=Blk.c6 hA;have hga:=hA.lt;clear hSw hA;go_simp;try with_reducible rfl) hZ0 HT.tr ?_;refine HT.tk 1 rfl (by intro v hSw;have hA:=HXd.out.upd hSw HNX.out;have E_:=Blk.c6 hA;have hga:=hA.lt;clear hSw hA;go_simp;try with_reducible rfl) hZ0 HT.tr ?_;refine HT.tm 2 rfl hZ0 HT.tr ?_;refine HT.tk 3 rfl (by intro v hSw;have hA:=HXd.out.upd hSw HNX.out;have E_:=Blk.c6 hA;have hga:=hA.lt;clear hSw hA;go_simp;try with_reducible rfl) hZ0 HT.tr ?_;refine HT.tk 5 rfl (by intro v hSw;have hA:=HXd.out.upd hSw HNX.out;have E_:=Blk.c6 hA;have hga:=hA.lt;clear hSw hA;go_simp;try with_reducible rfl) hZ0 HT.tr ?_;refine HT.tk 6 rfl (by intro v hSw;have hA:=HXd.out.upd hSw HNX.out;have E_:=Blk.c6 hA;have hga:=hA.lt;clear hSw hA;go_simp;try with_reducible rfl) hZ0 HT.tr ?_;refine HT.tm 7 rfl hZ0 HT.tr ?_;refine HT.two (i:=4) (j:=9) (by kernel_rfl) rfl rfl (fun K hK=>?_) (fun K hK=>?_)
  ·go_simp;have HV:=Hi (value_ wd G vl fu k0 c fm m HGd.out ps l k a s n A la cA B lb cB HTT.out HOK.out);rw [HRV.out] at HV;refine (show Calls Tryz.prog 76 #[.pointer (some ⟨G.g,0,none⟩),nzA k a s n A la cA B lb cB] wd _ from HV.out).mono ?_;intro e w4 h4;cases rv with
   | bad a2 er2=>
    obtain ⟨rfl,hu4⟩:=h4;have HEND:=Hi (show OuP w0 w G vl fu k0 fm m res (panF a2 er2) w4 from by
     rw [←show Rf.bad a2 er2=res from HRES.out];exact ⟨rfl,(HUd.out.trans hu4).mono fun b hb=>.inl hb⟩)
    exact ⟨rfl,HEND.out⟩
   | ok q=>
    obtain ⟨sc,nd⟩:=q;obtain ⟨rfl,hG4,hu4⟩:=h4;have hz4:Upd (fun b=>b=G.g) wd w4:=hu4;(try dsimp only);refine hK.out _ _ hz4 trivial ?_;clear hK K;(try simp only [HT.pS]);refine HT.tm 8 rfl hz4 HT.tr ?_;obtain ⟨w5,hw5⟩:∃ u,w4.alloc (.cells #[.string ⟨#[]⟩,.bool false,.bool false] 158)=u:=⟨_,rfl⟩;have hb5:Below w4.heap.size w4 w5:=by rw [←hw5];exact (Below.refl _ _).alloc (Nat.le_refl _) _
    have hX5:Blk w5 w4.heap.size 158 #[.string ⟨#[]⟩,.bool false,.bool false]:=by rw [←hw5];exact Blk.new _ _ _
    have hz5:Upd (fun b=>b=G.g) wd w5:=hz4.trans (Upd.of_below hb5 _);obtain ⟨l5,hl5⟩:∃ l5,w4.heap.size=l5:=⟨_,rfl⟩;rw [hl5] at hX5;have hl5d:w.heap.size < l5:=by have:=hz4.size;have:=HSD.out;omega
    refine HT.one (i:=9) (by kernel_rfl) rfl (fun K hK=>?_);go_simp;(try rw [hw5]);(try rw [hl5]);(try dsimp only);refine hK.out _ _ hz5 trivial ?_;clear hK K;(try simp only [HT.pS]);obtain ⟨d0,d1,d2,f0,f1,f2⟩:=fst3 hX5;have hgl:=hX5.lt;have hz6:Upd (fun b=>b=G.g) wd (((w5.setCell ⟨l5,0,none⟩ (.string ⟨s.toArray⟩)).setCell ⟨l5,1,none⟩ (.bool sc)).setCell ⟨l5,2,none⟩ (.bool sh)):=((hz5.setCell (p:=⟨l5,0,none⟩) (fun h=>absurd h (by show ¬ l5 < _;have:=HSD.out;omega)) _).setCell (p:=⟨l5,1,none⟩) (fun h=>absurd h (by show ¬ l5 < _;have:=HSD.out;omega)) _).setCell (p:=⟨l5,2,none⟩) (fun h=>absurd h (by show ¬ l5 < _;have:=HSD.out;omega)) _;have hus:Upd (fun b=>b=l5) w5 (((w5.setCell ⟨l5,0,none⟩ (.string ⟨s.toArray⟩)).setCell ⟨l5,1,none⟩ (.bool sc)).setCell ⟨l5,2,none⟩ (.bool sh)):=(((Upd.refl (fun b=>b=l5) w5).setCell (p:=⟨l5,0,none⟩) (fun _=>rfl) _).setCell (p:=⟨l5,1,none⟩) (fun _=>rfl) _).setCell (p:=⟨l5,2,none⟩) (fun _=>rfl) _;have HI5:=Hi (show OuI w0 w (((w5.setCell ⟨l5,0,none⟩ (.string ⟨s.toArray⟩)).setCell ⟨l5,1,none⟩ (.bool sc)).setCell ⟨l5,2,none⟩ (.bool sh)) G vl fu k0 c fm m l5 s sc sh nd (nB k a s n A la cA B lb cB) from
     ⟨(hG4.below hb5).far1 hus (fun h=>by have:=hG4.lt _ h;omega) (by obtain ⟨mf,hf⟩:=hG4.fun_;have:=hf.lt;omega) (by have:=hG4.bel.size;omega),((hX5.set 0 _).set 1 _).set 2 _,HXd.out.upd hz6 HNX.out,HUd.out.trans hz6,hl5d⟩)
    refine HT.one (i:=10) (by kernel_rfl) rfl (fun K hK=>?_);go_simp;(try dsimp only);refine hK.out _ _ hz6 trivial ?_;clear hK K;(try simp only [HT.pS]);refine HT.done (by kernel_rfl) ?_;clear hz4 hz5 hz6 hus hG4 hu4 hw5 hb5 hX5 hl5 d0 d1 d2 f0 f1 f2 hZ0;go_wp2_with fail
    go_meet
    exact ⟨_,_,_,rfl,HI5,Hi rfl⟩
  ·obtain ⟨w5,hw5⟩:∃ u,wd.alloc (.cells #[.string ⟨#[]⟩,.bool false,.bool false] 158)=u:=⟨_,rfl⟩;have hb5:Below wd.heap.size wd w5:=by rw [←hw5];exact (Below.refl _ _).alloc (Nat.le_refl _) _
   have hX5:Blk w5 wd.heap.size 158 #[.string ⟨#[]⟩,.bool false,.bool false]:=by rw [←hw5];exact Blk.new _ _ _
   have hz5:Upd (fun b=>b=G.g) wd w5:=Upd.of_below hb5 _;obtain ⟨l5,hl5⟩:∃ l5,wd.heap.size=l5:=⟨_,rfl⟩;rw [hl5] at hX5;have hl5d:w.heap.size < l5:=by have:=HSD.out;omega
   go_simp;(try rw [hw5]);(try rw [hl5]);(try dsimp only);refine hK.out _ _ hz5 trivial ?_;clear hK K;(try simp only [HT.pS]);refine HT.one (i:=4) (by kernel_rfl) rfl (fun K hK=>?_);go_simp;have HV:=Hi (value_ w5 G vl fu k0 c fm m (HGd.out.below hb5) ps l k a s n A la cA B lb cB HTT.out HOK.out);rw [HRV.out] at HV;refine (show Calls Tryz.prog 76 #[.pointer (some ⟨G.g,0,none⟩),nzA k a s n A la cA B lb cB] w5 _ from HV.out).mono ?_;intro e w4 h4;cases rv with
   | bad a2 er2=>
    obtain ⟨rfl,hu4⟩:=h4;have HEND:=Hi (show OuP w0 w G vl fu k0 fm m res (panF a2 er2) w4 from by
     rw [←show Rf.bad a2 er2=res from HRES.out];exact ⟨rfl,((HUd.out.trans hz5).trans hu4).mono fun b hb=>.inl hb⟩)
    exact ⟨rfl,HEND.out⟩
   | ok q=>
    obtain ⟨sc,nd⟩:=q;obtain ⟨rfl,hG4,hu4⟩:=h4;have hz4:Upd (fun b=>b=G.g) wd w4:=hz5.trans hu4;(try dsimp only);refine hK.out _ _ hz4 trivial ?_;clear hK K;(try simp only [HT.pS]);refine HT.tm 8 rfl hz4 HT.tr ?_;have hgn5:¬ l5=G.g:=by have:=HGd.out.lt _ (.inl rfl);omega
    have hX4:=hX5.upd hu4 hgn5;obtain ⟨d0,d1,d2,f0,f1,f2⟩:=fst3 hX4;have hgl:=hX4.lt;have hz6:Upd (fun b=>b=G.g) wd (((w4.setCell ⟨l5,0,none⟩ (.string ⟨s.toArray⟩)).setCell ⟨l5,1,none⟩ (.bool sc)).setCell ⟨l5,2,none⟩ (.bool sh)):=((hz4.setCell (p:=⟨l5,0,none⟩) (fun h=>absurd h (by show ¬ l5 < _;have:=HSD.out;omega)) _).setCell (p:=⟨l5,1,none⟩) (fun h=>absurd h (by show ¬ l5 < _;have:=HSD.out;omega)) _).setCell (p:=⟨l5,2,none⟩) (fun h=>absurd h (by show ¬ l5 < _;have:=HSD.out;omega)) _;have hus:Upd (fun b=>b=l5) w4 (((w4.setCell ⟨l5,0,none⟩ (.string ⟨s.toArray⟩)).setCell ⟨l5,1,none⟩ (.bool sc)).setCell ⟨l5,2,none⟩ (.bool sh)):=(((Upd.refl (fun b=>b=l5) w4).setCell (p:=⟨l5,0,none⟩) (fun _=>rfl) _).setCell (p:=⟨l5,1,none⟩) (fun _=>rfl) _).setCell (p:=⟨l5,2,none⟩) (fun _=>rfl) _;have HI5:=Hi (show OuI w0 w (((w4.setCell ⟨l5,0,none⟩ (.string ⟨s.toArray⟩)).setCell ⟨l5,1,none⟩ (.bool sc)).setCell ⟨l5,2,none⟩ (.bool sh)) G vl fu k0 c fm m l5 s sc sh nd (nB k a s n A la cA B lb cB) from
     ⟨hG4.far1 hus (fun h=>by have:=HGd.out.lt _ h;omega) (by obtain ⟨mf,hf⟩:=HGd.out.fun_;have:=hf.lt;omega) (by have:=HGd.out.bel.size;omega),((hX4.set 0 _).set 1 _).set 2 _,HXd.out.upd hz6 HNX.out,HUd.out.trans hz6,hl5d⟩)
    refine HT.one (i:=10) (by kernel_rfl) rfl (fun K hK=>?_);go_simp;(try dsimp only);refine hK.out _ _ hz6 trivial ?_;clear hK K;(try simp only [HT.pS]);refine HT.done (by kernel_rfl) ?_;clear hz4 hz6 hus hG4 hu4 hX4 d0 d1 d2 f0 f1 f2 hZ0;go_wp2_with fail
    go_meet
    exact ⟨_,_,_,rfl,HI5,Hi rfl⟩
 case rest=>
  obtain ⟨lb0,sc,nd,rfl,HI5,HRV2⟩:=hcut;have hr:=HRES.out;rw [HRV2.out] at hr;have hr2:(if sc=true∧k = 9 then Rf.bad a 130 else .ok { c with nd:=nd,ou:=c.ou ++ [(s,sc,decide (k = 9))] })=res:=hr;rw [HSH.out] at hr2;have HR2:=Hi hr2;have hI:=HI5.out;obtain ⟨d0,d1,d2,f0,f1,f2⟩:=fst3 hI.lab;have hgl:=hI.lab.lt;obtain ⟨⟨e0,e1,e2,e3,e4,e5⟩,z0,z1,z2,z3,z4,z5⟩:=Blk.c6 hI.nod;have hgn:=hI.nod.lt;clear hr hr2 hI HRV HRV2 HRES HOK HTT HGd HXd HUd HSD HWD HW;generalize wc=wD at *;by_cases hbad:sc=true∧sh=true
  ·obtain ⟨rfl,rfl⟩:=hbad;have HEND:=Hi (show OuP w0 w G vl fu k0 fm m res (panF a 130) wD from by
    rw [←HR2.out,if_pos ⟨rfl,of_decide_eq_true HSH.out⟩];exact ⟨rfl,HI5.out.upd.mono fun b hb=>.inl hb⟩)
   go_wp2_with fail
   exact ⟨rfl,HEND.out⟩
  ·have hr3:Rf.ok { c with nd:=nd,ou:=c.ou ++ [(s,sc,sh)] }=res:=by
    rw [←HR2.out,if_neg (fun h=>hbad ⟨h.1,by rw [←HSH.out];exact decide_eq_true h.2⟩)]
   have HR3:=Hi hr3;have hdr:Below wD.heap.size wD wD.drew:=Below.drew (Below.refl _ _);obtain ⟨wz,hwd⟩:∃ u,wD.drew=u:=⟨_,rfl⟩;rw [hwd] at hdr;have HGz:=Hi (HI5.out.cg.below hdr);have HLz:=Hi (HI5.out.lab.below hdr HI5.out.lab.lt);have HUz:=Hi (HI5.out.upd.trans (Upd.of_below hdr _));have HNL:=Hi (show ¬ (vl.ownBlock=some lb0∨lb0=G.g) from fun h=>by
    have:=HI5.out.new;rcases h with h | h
    ·have:=HOW.out _ (.inr (.inr (.inr h)));omega
    ·have:=HOW.out _ (.inl rfl);omega)
   have hd:=HGz.out.dis;have HGV:=Hi (show ¬ vl.ownBlock=some G.g from fun h=>(hd.2.2.2.2.2.2 _ h).1 rfl);have hZ0:Upd (fun b=>vl.ownBlock=some b∨b=G.g) wz wz:=Upd.refl _ _;have hS0:Upd (fun b=>vl.ownBlock=some b) wz wz:=Upd.refl _ _;obtain ⟨w4,hw4⟩:∃ v,wz.alloc (.cells #[.string ⟨s.toArray⟩,.bool sc,.bool sh] 158)=v:=⟨_,rfl⟩;have hb4:Below wz.heap.size wz w4:=by rw [←hw4];exact (Below.refl _ _).alloc (Nat.le_refl _) _
   have hL4:Lies w4 (some ⟨wz.heap.size,0,none⟩) (lbC (s,sc,sh)):=by rw [←hw4];exact lies_full _ _ _
   have ho4:w4.ownsRow w0.heap.size 158 3 vl c.ou.length (c.ou.flatMap lbC):=Nm.own_updV HGz.out.lab (Upd.of_below hb4 fun _=>False) fun _ _ h=>h
   have hlo4:w0.heap.size≤w4.heap.size:=Nat.le_trans HGz.out.bel.size hb4.size;have hou:c.ou.length+1≤1099511627776:=by have h1:c.ou.length≤m:=HGz.out.oub;have:=HM.out;omega
   have hz4:Upd (fun b=>vl.ownBlock=some b∨b=G.g) wz w4:=Upd.of_below hb4 _;have hs4:Upd (fun b=>vl.ownBlock=some b) wz w4:=Upd.of_below hb4 _;have HWD:=Hi hwd;have hsz:=HLz.out.lt;have hbad2:¬ (sc=true∧sh=true):=hbad;clear hr3 hbad hdr hwd hd e0 e1 e2 e3 e4 e5 z0 z1 z2 z3 z4 z5 hgn;have fin:∀ (vA:Option Addr) (vc:Nat) (w8:World),Upd (fun b=>vl.ownBlock=some b) wz w8→w8.ownsRow w0.heap.size 158 3 (.slice vA (c.ou.length+1) vc) (c.ou.length+1) (c.ou.flatMap lbC ++ lbC (s,sc,sh))→((Value.slice vA (c.ou.length+1) vc).ownBlock=vl.ownBlock∨(Value.slice vA (c.ou.length+1) vc).ownBlock=some w4.heap.size) →
     OuP w0 w G vl fu k0 fm m res (.returned (.tuple #[])) (w8.setCell ⟨G.g,2,none⟩ (.slice vA (c.ou.length+1) vc)):=fun vA vc w8 hs8 hown hat=>by
    rw [←HR3.out];have hg:=HGz.out;have hd:=hg.dis;have hlt:=hg.lt;have hfn:∀ b,(Value.slice vA (c.ou.length+1) vc).ownBlock=some b→b≠G.g∧b≠G.kb∧b≠G.rb∧b≠G.fb:=fun b hb=>by
     rcases hat with h | h
     ·rw [h] at hb;exact hd.2.2.2.2.2.2 b hb
     ·rw [h] at hb;cases hb;have h1:=hb4.size;obtain ⟨mf,hf⟩:=hg.fun_;have h2:=hf.lt;have h3:=hlt _ (.inl rfl);have h4:=hlt _ (.inr (.inl rfl));have h5:=hlt _ (.inr (.inr (.inl rfl)));omega
    have hu:Upd (fun b=>b=G.g∨vl.ownBlock=some b) wz (w8.setCell ⟨G.g,2,none⟩ (.slice vA (c.ou.length+1) vc)):=(hs8.mono fun b hb=>.inr hb).setCell (p:=⟨G.g,2,none⟩) (fun _=>.inl rfl) _;refine ⟨rfl,.slice vA (c.ou.length+1) vc,⟨(hg.blk.upd hs8 HGV.out).set 2 _,?_,?_,hg.frk,hg.dom,?_,?_,⟨hd.1,hd.2.1,hd.2.2.1,hd.2.2.2.1,hd.2.2.2.2.1,hd.2.2.2.2.2.1,hfn⟩,?_,?_,hg.rdb,?_,hg.fok⟩,?_,?_⟩
    ·exact ((hg.kno.upd hs8 (fun h=>(hd.2.2.2.2.2.2 _ h).2.1 rfl)).heap (far_heap hd.1)).mono (Nat.le_succ m)
    ·exact ((hg.fre.upd hs8 (fun h=>(hd.2.2.2.2.2.2 _ h).2.2.1 rfl)).heap (far_heap hd.2.1)).mono (Nat.le_succ m)
    ·obtain ⟨mf,hf⟩:=hg.fun_;refine ⟨mf,?_⟩;have h1:=hf.upd hs8 (fun h=>(hd.2.2.2.2.2.2 _ h).2.2.2 rfl);obtain ⟨kd,q1,q2⟩:=h1;exact ⟨kd,q1.heap (far_heap hd.2.2.1),q2⟩
    ·show (w8.setCell _ _).ownsRow _ _ 3 _ (c.ou ++ [(s,sc,sh)]).length ((c.ou ++ [(s,sc,sh)]).flatMap lbC);rw [List.length_append,List.flatMap_append];refine far_own ?_ fun h=>(hfn _ h).1 rfl
     simpa using hown
    ·intro b hb;rcases hb with h | h | h | h
     ·exact hg.low b (.inl h)
     ·exact hg.low b (.inr (.inl h))
     ·exact hg.low b (.inr (.inr (.inl h)))
     ·exact (Nm.own_atV hown b h).1
    ·show (c.ou ++ [_]).length≤m+1;rw [List.length_append];have h1:c.ou.length≤m:=hg.oub;show c.ou.length+1≤m+1;omega
    ·exact hg.bel.trans (hu.below (B:=w0.heap.size) hg.bel.size fun b hb=>hb.elim (fun h=>hg.low b (.inl h)) fun h=>hg.low b (.inr (.inr (.inr h))))
    ·rcases hat with h | h
     ·exact .inl h
     ·exact .inr ⟨_,Nat.le_trans HUz.out.size hb4.size,h⟩
    ·exact (HUz.out.mono fun b hb=>.inl hb).trans hu
   have HFIN:=Hi fin;clear fin;have HOC:=Hi (show c.ou.length≤1099511627776 from by omega);have hte:(sc && sh)=false:=by
    cases sc <;> cases sh <;> first | rfl | exact absurd ⟨rfl,rfl⟩ hbad2
   clear hbad2;cases sc with
   | false=>
    clear hte;go_upto_region 4 with fail
    have hwd:=HWD.out;clear d0 d1 d2 f0 f1 f2 HWD;refine HT.wp_region (Z:=fun w'=>Upd (fun b=>vl.ownBlock=some b∨b=G.g) wz w') (S:=fun w'=>Upd (fun b=>vl.ownBlock=some b) wz w') (st:=[10]) (by kernel_rfl) ?_;rw [hwd];clear hwd;refine HT.tm 0 rfl hZ0 (fun _=>hS0) ?_;refine HT.tm 1 rfl hZ0 (fun _=>hS0) ?_;refine HT.tm 2 rfl hZ0 (fun _=>hS0) ?_;refine HT.tm 3 rfl hZ0 (fun _=>hS0) ?_;refine HT.ts 4 rfl (by intro v hSw;have hG:=HGz.out.blk.upd hSw HGV.out;obtain ⟨c0,c1,c2,c3,c4,c5,c6⟩:=Blk.c7 hG;have hga:=hG.lt;clear hSw hG;go_simp;try with_reducible rfl) hZ0 hS0 ?_;refine HT.tk 5 rfl (by intro v hSw;have hA:=HLz.out.upd hSw HNL.out;obtain ⟨d0,d1,d2,f0,f1,f2⟩:=fst3 hA;have hga:=hA.lt;clear hSw hA;go_simp;try with_reducible rfl) hZ0 (fun _=>hS0) ?_;refine HT.one (i:=6) (by kernel_rfl) rfl (fun K hK=>?_);go_simp;(try rw [hw4]);(try dsimp only);refine hK.out _ _ hz4 hs4 ?_;clear hK K;(try simp only [HT.pS]);refine HT.one (i:=7) (by kernel_rfl) rfl (fun K hK=>?_);refine step_any rfl _ _ 63 rfl w0.heap.size 158 i0 (.agg #[.string ⟨#[]⟩,.bool false,.bool false]) 3 24 Tryz.underlying63 HI.out HZ0.out HZ1.out HZ2.out rfl (by decide) vl c.ou.length _ rfl ho4 (some ⟨wz.heap.size,0,none⟩) 1 1 (lbC (s,false,sh)) rfl rfl hL4 (by simp [lbC,Value.oneCell']) (by unfold maxLen;omega) (by omega) hlo4 ?_;intro v' w8 hown hgrow hat;obtain ⟨vA,vc,rfl⟩:=own_sl hown;have hs8:Upd (fun b=>vl.ownBlock=some b) wz w8:=hs4.grown hgrow fun b hb _=>hb
    have hz8:Upd (fun b=>vl.ownBlock=some b∨b=G.g) wz w8:=hs8.mono fun b hb=>.inl hb
    have HEND:=Hi (HFIN.out vA vc w8 hs8 hown hat);(try dsimp only);refine hK.out _ _ hz8 hs8 ?_;clear hK K;(try simp only [HT.pS]);refine HT.tm 8 rfl hz8 (fun _=>hs8) ?_;refine HT.tm 9 rfl hz8 (fun _=>hs8) ?_;have hG8:=HGz.out.blk.upd hs8 HGV.out;obtain ⟨c0,c1,c2,c3,c4,c5,c6⟩:=Blk.c7 hG8;have fz:=hG8.frozen 2;have hg8:=hG8.lt;refine HT.oneS (i:=10) (by kernel_rfl) (by kernel_rfl) rfl (fun K hK=>?_);go_simp;refine hK.out _ _ (hz8.setCell (p:=⟨G.g,2,none⟩) (fun _=>.inr rfl) _) ?_;clear hK K;(try simp only [HT.pS]);refine HT.done (by kernel_rfl) ?_;clear hown hat hgrow hs8 hz8 hG8 hz4 hs4 hw4 hb4 hL4 ho4 c0 c1 c2 c3 c4 c5 c6 fz hg8 hZ0 hS0;go_wp2_with fail
    first | go_end0 | skip
    all_goals first | exact HEND.out | exact bodyPost_ret (results_none rfl _ _ _) rfl HEND.out
   | true=>
    have hsh2:sh=false:=by simpa using hte
    subst hsh2;clear hte;go_upto_region 4 with fail
    have hwd:=HWD.out;clear d0 d1 d2 f0 f1 f2 HWD;refine HT.wp_region (Z:=fun w'=>Upd (fun b=>vl.ownBlock=some b∨b=G.g) wz w') (S:=fun w'=>Upd (fun b=>vl.ownBlock=some b) wz w') (st:=[10]) (by kernel_rfl) ?_;rw [hwd];clear hwd;refine HT.tm 0 rfl hZ0 (fun _=>hS0) ?_;refine HT.tm 1 rfl hZ0 (fun _=>hS0) ?_;refine HT.tm 2 rfl hZ0 (fun _=>hS0) ?_;refine HT.tm 3 rfl hZ0 (fun _=>hS0) ?_;refine HT.ts 4 rfl (by intro v hSw;have hG:=HGz.out.blk.upd hSw HGV.out;obtain ⟨c0,c1,c2,c3,c4,c5,c6⟩:=Blk.c7 hG;have hga:=hG.lt;clear hSw hG;go_simp;try with_reducible rfl) hZ0 hS0 ?_;refine HT.tk 5 rfl (by intro v hSw;have hA:=HLz.out.upd hSw HNL.out;obtain ⟨d0,d1,d2,f0,f1,f2⟩:=fst3 hA;have hga:=hA.lt;clear hSw hA;go_simp;try with_reducible rfl) hZ0 (fun _=>hS0) ?_;refine HT.one (i:=6) (by kernel_rfl) rfl (fun K hK=>?_);go_simp;(try rw [hw4]);(try dsimp only);refine hK.out _ _ hz4 hs4 ?_;clear hK K;(try simp only [HT.pS]);refine HT.one (i:=7) (by kernel_rfl) rfl (fun K hK=>?_);refine step_any rfl _ _ 63 rfl w0.heap.size 158 i0 (.agg #[.string ⟨#[]⟩,.bool false,.bool false]) 3 24 Tryz.underlying63 HI.out HZ0.out HZ1.out HZ2.out rfl (by decide) vl c.ou.length _ rfl ho4 (some ⟨wz.heap.size,0,none⟩) 1 1 (lbC (s,true,false)) rfl rfl hL4 (by simp [lbC,Value.oneCell']) (by unfold maxLen;omega) (by omega) hlo4 ?_;intro v' w8 hown hgrow hat;obtain ⟨vA,vc,rfl⟩:=own_sl hown;have hs8:Upd (fun b=>vl.ownBlock=some b) wz w8:=hs4.grown hgrow fun b hb _=>hb
    have hz8:Upd (fun b=>vl.ownBlock=some b∨b=G.g) wz w8:=hs8.mono fun b hb=>.inl hb
    have HEND:=Hi (HFIN.out vA vc w8 hs8 hown hat);(try dsimp only);refine hK.out _ _ hz8 hs8 ?_;clear hK K;(try simp only [HT.pS]);refine HT.tm 8 rfl hz8 (fun _=>hs8) ?_;refine HT.tm 9 rfl hz8 (fun _=>hs8) ?_;have hG8:=HGz.out.blk.upd hs8 HGV.out;obtain ⟨c0,c1,c2,c3,c4,c5,c6⟩:=Blk.c7 hG8;have fz:=hG8.frozen 2;have hg8:=hG8.lt;refine HT.oneS (i:=10) (by kernel_rfl) (by kernel_rfl) rfl (fun K hK=>?_);go_simp;refine hK.out _ _ (hz8.setCell (p:=⟨G.g,2,none⟩) (fun _=>.inr rfl) _) ?_;clear hK K;(try simp only [HT.pS]);refine HT.done (by kernel_rfl) ?_;clear hown hat hgrow hs8 hz8 hG8 hz4 hs4 hw4 hb4 hL4 ho4 c0 c1 c2 c3 c4 c5 c6 fz hg8 hZ0 hS0;go_wp2_with fail
    first | go_end0 | skip
    all_goals first | exact HEND.out | exact bodyPost_ret (results_none rfl _ _ _) rfl HEND.out
def SP(w0 w:World)(G:Gx)(vl:Value)(fu:Fu)(k0:Kw)(m rd0 cost:Nat)(r:Rf Sf)(e:Ending)(w':World):Prop:=
 match r with
 | .ok c=>e = .returned (.tuple #[])∧∃ vl' fm' m',CG w0 w' G vl' fu k0 c fm' m'∧Nw vl vl' w∧Upd (ow G vl) w w'∧m'+rd0 * 134217728≤m+cost+c.rd * 134217728∧rd0≤c.rd
 | .bad a er=>e=panF a er∧Upd (ow G vl) w w'
abbrev xT(fu:Fu):Tz→Sf→Rf Sf:=sfT worB XM 61 2000 fu
abbrev xTs(fu:Fu):Nat→List Tz→Sf→Rf Sf:=sfTs worB XM 61 2000 fu
def StAt(w0:World)(fu:Fu)(z:Tz):Prop:=
 ∀ (w:World) (G:Gx) (vl:Value) (k0:Kw) (c:Sf) (fm:Kw) (m:Nat) (k a:Int) (s:Bs) (n:Nat) (A:Option Addr) (la cA:Nat) (B:Option Addr) (lb cB:Nat),CG w0 w G vl fu k0 c fm m→nbz z≤134217728→m+nbz z≤(c.rd+1) * 134217728→TrV w0 z k a s n A la cA B lb cB→okS fu z →
  Calls Tryz.prog 59 #[.pointer (some ⟨G.g,0,none⟩),nzA k a s n A la cA B lb cB] w (SP w0 w G vl fu k0 m c.rd (nbz z) (xT fu z c))
theorem Nw.refl(vl:Value)(w:World):Nw vl vl w:=.inl rfl
theorem Nw.trans{vl vl1 vl2:Value}{w w1:World}(h:Nw vl vl1 w)(hs:w.heap.size≤w1.heap.size)(h2:Nw vl1 vl2 w1):Nw vl vl2 w:=by
 rcases h2 with h2 | ⟨n,h3,h4⟩
 ·rcases h with h | ⟨n,h3,h4⟩
  ·exact .inl (h2.trans h)
  ·exact .inr ⟨n,h3,h2.trans h4⟩
 ·exact .inr ⟨n,Nat.le_trans hs h3,h4⟩
theorem ow_nw{G:Gx}{vl vl':Value}{w:World}(h:Nw vl vl' w):∀ b,ow G vl' b→b < w.heap.size→ow G vl b:=fun b hb hlt=>by
 rcases hb with hb | hb | hb | hb
 ·exact .inl hb
 ·exact .inr (.inl hb)
 ·exact .inr (.inr (.inl hb))
 ·rcases h with h | ⟨n,h3,h4⟩
  ·exact .inr (.inr (.inr (h ▸ hb)))
  ·rw [h4] at hb;cases hb;omega
theorem xTs_nil(fu:Fu)(i:Nat)(c:Sf):xTs fu i [] c = .ok c:=by unfold xTs sfTs;rfl
theorem xTs_cons(fu:Fu)(x:Tz)(l:List Tz)(c:Sf):xTs fu 0 (x :: l) c=bndF (xT fu x c) fun d=>xTs fu 0 l d:=by conv=>lhs;unfold xTs sfTs
theorem xTs_drop(fu:Fu):∀ (i:Nat) (l:List Tz) (c:Sf),xTs fu i l c=xTs fu 0 (l.drop i) c
 | 0,l,c=>rfl
 | i+1,[],c=>by rw [xTs_nil];simp [xTs_nil]
 | i+1,x :: l,c=>by
  rw [List.drop_succ_cons,←xTs_drop fu i l c]
  conv=>lhs;unfold xTs sfTs
theorem nbzs_drop{l:List Tz}{i:Nat}{y:Tz}(h:l[i]?=some y):nbzs (l.drop i)=nbz y+nbzs (l.drop (i+1)):=by
 rw [drop_at h];rfl
theorem nbzs_mem:∀ {l:List Tz} {i:Nat} {y:Tz},l[i]?=some y→nbz y≤nbzs l
 | [],i,y,h=>by simp at h
 | x :: l,0,y,h=>by
  have:x=y:=by simpa using h
  subst this;show nbz x≤nbz x+nbzs l;omega
 | x :: l,i+1,y,h=>by
  have h1:=nbzs_mem (l:=l) (i:=i) (y:=y) (by simpa using h);show nbz y≤nbz x+nbzs l;omega
theorem statements_{w0:World}{fu:Fu}(l:List Tz)(H:∀ y∈l,StAt w0 fu y)(w:World)(G:Gx)(vl:Value)(k0:Kw)(c:Sf)(fm:Kw)(m:Nat)(A:Option Addr)(cA:Nat)(hG:CG w0 w G vl fu k0 c fm m)(hk:nbzs l≤134217728)(hm:m+nbzs l≤(c.rd+1) * 134217728)(hP:Pts w0 A cA l)(hok:okSs fu 0 l) :
  Calls Tryz.prog 50 #[.pointer (some ⟨G.g,0,none⟩),.slice A l.length cA] w (SP w0 w G vl fu k0 m c.rd (nbzs l) (xTs fu 0 l c)):=by
 have hlm:l.length≤9223372036854775807:=Nat.le_trans hP.le hP.cap;have HH:=Hi H;have HP:=Hi hP;have HOK:=Hi hok;have HG:=Hi hG;have HM:=Hi hm;have HK:=Hi hk;obtain ⟨res,hres⟩:∃ res,xTs fu 0 l c=res:=⟨_,rfl⟩;rw [hres];have HRES:=Hi hres;clear H hP hok hG hm hk hres;go_enter Tryz.func50,Tryz.ntmps50;go_wp2_with fail
 go_loopw [8] (fun vi wr=>∃ (i:Nat) (ci:Sf) (vli:Value) (fmi:Kw) (mi:Nat),i≤l.length∧vi = .int .i64 (i:Int)∧Hid (CG w0 wr G vli fu k0 ci fmi mi)∧Hid (Nw vl vli w)∧Hid (Upd (ow G vl) w wr)∧Hid (mi+c.rd * 134217728+nbzs (l.drop i)≤m+nbzs l+ci.rd * 134217728∧c.rd≤ci.rd)∧Hid (xTs fu 0 (l.drop i) ci=res)) (fun vi _=>l.length - (intOf vi).toNat)
 case atStart=>exact ⟨0,c,vl,fm,m,by omega,rfl,HG,Hi (Nw.refl _ _),Hi (Upd.refl _ _),Hi ⟨by show m+c.rd * 134217728+nbzs l≤_;omega,Nat.le_refl _⟩,HRES⟩
 case round=>
  obtain ⟨i,ci,vli,fmi,mi,hi,rfl,HGi,HN,HU,HB,HQ⟩:=hrel;by_cases hlt:i < l.length
  ·have hil:(i:Int) < (l.length:Int):=by omega
   obtain ⟨y,hy⟩:∃ y,l[i]?=some y:=⟨_,List.getElem?_eq_getElem hlt⟩;obtain ⟨bb,o,k',a',s',n',A',la',cA',B',lb',cB',hA,hTy,hbl,g0',g1,g2,g3,g4,g5⟩:=HP.out.at_ HGi.out.bel hy;subst hA;obtain ⟨wb,hwb,hbb,hXb,hsb⟩:=a_box wr (nB k' a' s' n' A' la' cA' B' lb' cB');have hnb:=nbzs_drop hy;have hb1:=HB.out.1;have hb2:=HB.out.2;have hmm:=HM.out;have hCc:=HH.out y (List.mem_of_getElem? hy) wb G vli k0 ci fmi mi k' a' s' n' A' la' cA' B' lb' cB' (HGi.out.below hbb) (Nat.le_trans (nbzs_mem hy) HK.out) (by rw [hnb] at hb1;omega) hTy (okSs_at HOK.out hy);have hq:=HQ.out;rw [drop_at hy,xTs_cons] at hq;obtain ⟨⟨e0,e1,e2,e3,e4,e5⟩,z0,z1,z2,z3,z4,z5⟩:=Blk.c6 hXb;have HCC:=Hi hCc;have HWB:=Hi hwb;have HQ2:=Hi hq;have HUB:=Hi (HU.out.trans (Upd.of_below hbb _));have HNB:=Hi hnb;have HBS:=Hi hbb.size;have hbl2:bb < wr.heap.size:=Nat.lt_of_lt_of_le hbl HGi.out.bel.size;clear hCc hwb hbb hXb hq hTy hy hsb hb1 hb2 hmm hnb;generalize xT fu y ci=r2 at HCC HQ2;go_wp2_with fail
   rw [HWB.out];refine (show Calls Tryz.prog 59 #[.pointer (some ⟨G.g,0,none⟩),nzA k' a' s' n' A' la' cA' B' lb' cB'] wb _ from HCC.out).mono ?_;intro e w4 h4;clear e0 e1 e2 e3 e4 e5 z0 z1 z2 z3 z4 z5;cases r2 with
   | bad a2 er2=>
    obtain ⟨rfl,hu4⟩:=h4;have HEND:=Hi (show SP w0 w G vl fu k0 m c.rd (nbzs l) res (panF a2 er2) w4 from by
     rw [←show Rf.bad a2 er2=res from HQ2.out];exact ⟨rfl,upd_then HUB.out hu4 (ow_nw HN.out)⟩)
    clear hu4;go_wp2_with fail
    exact ⟨rfl,HEND.out⟩
   | ok d=>
    obtain ⟨rfl,vl4,fm4,m4,hG4,hN4,hu4,hb4,hr4⟩:=h4;have H1:=Hi hG4;have H2:=Hi (HN.out.trans (show w.heap.size≤wb.heap.size from HUB.out.size) hN4);have H3:=Hi (upd_then HUB.out hu4 (ow_nw HN.out));have H4:=Hi (show m4+c.rd * 134217728+nbzs (l.drop (i+1))≤m+nbzs l+d.rd * 134217728∧c.rd≤d.rd from by
     have h1:=HB.out.1;have h2:=HB.out.2;have h3:=HNB.out;omega)
    have H5:=Hi (show xTs fu 0 (l.drop (i+1)) d=res from HQ2.out);clear hG4 hN4 hu4 hb4 hr4;go_wp2_with fail
    go_roundw
    case rel=>exact ⟨i+1,d,vl4,fm4,m4,by omega,by go_num,H1,H2,H3,H4,H5⟩
    case measure=>simp [intOf];omega
  ·obtain rfl:i=l.length:=by omega
   have hq:=HQ.out;rw [List.drop_length,xTs_nil] at hq;have HEND:=Hi (show SP w0 w G vl fu k0 m c.rd (nbzs l) res (.returned (.tuple #[])) wr from by
    rw [←hq];exact ⟨rfl,vli,fmi,mi,HGi.out,HN.out,HU.out,by have h1:=HB.out.1;omega,HB.out.2⟩)
   clear hq;go_wp2_with fail
   first | go_end0 | skip
   all_goals first | exact HEND.out | exact bodyPost_ret (results_none rfl _ _ _) rfl HEND.out
end Go.Proofs.YtdhoemlomojfaaaGreatDoor.Fl
