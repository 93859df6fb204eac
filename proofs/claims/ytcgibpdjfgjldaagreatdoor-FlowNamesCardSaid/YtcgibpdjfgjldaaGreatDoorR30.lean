/- DERIVED. FlOpen, FlOu, FlSs, FlRo. By an AI agent. -/
import Derived.Test.YtcgibpdjfgjldaaGreatDoorR29
set_option maxRecDepth 100000
set_option maxHeartbeats 8000000
set_option linter.unusedVariables false
set_option linter.unusedSimpArgs false
namespace Go.Proofs.YtcgibpdjfgjldaaGreatDoor.Fl
open Go Go.ChangeShapes Go.WideShapes Go.ChangeAt Go.RowKit Lx Args Pa Sh Go.Proofs.YtcgibpdjfgjldaaGreatDoor.Nm
set_option linter.unusedVariables false
set_option linter.unusedSimpArgs false
theorem six{q:Prop}{w:World}{z:Tz}{c:List Value}(h:TIc q w z c):c.length = 6:=by
 obtain ⟨_,_,_,_,_,_,_,_,_,_,rfl⟩:=q1V h;rfl
theorem own_blk{w:World}{lo:Nat}{e:TypeId}{size n c g:Nat}{xs:List Value}(h:w.ownsRow lo e size (.slice (some ⟨g,0,none⟩) n c) n xs):∃ cur,Aa w g e cur/\cur.size=c * size/\n<=c:=by
 rcases h.2 with ⟨h2,_⟩ | ⟨g',cap,cur,h3,h4,h5,h6,h7,h8,h9⟩
 ·cases h2
 ·cases h3;exact ⟨cur,h5,h8,h6⟩
abbrev zAo:Value:=.agg #[.int .i64 0,.string ⟨#[]⟩,.int .u32 0,.int .i64 0,.slice none 0 0,.slice none 0 0]
theorem below_grown{wy W w8:World}{u:Value}{b0:Nat}(hb:Below wy.heap.size wy W)(hg:W.grownBy w8 u.ownBlock)(hu:u.ownBlock=some b0)(h0:wy.heap.size<=b0):Below wy.heap.size wy w8:=
 ((Upd.of_below hb (fun _=>False)).grown hg (fun k hk hlt=>by rw [hu] at hk;cases hk;omega)).below (Nat.le_refl _) (fun k h=>h.elim)
end Go.Proofs.YtcgibpdjfgjldaaGreatDoor.Fl
namespace Go.Proofs.YtcgibpdjfgjldaaGreatDoor
namespace Fl
open Go Go.ChangeShapes Go.WideShapes Go.ChangeAt Go.RowKit Lx Args Pa Sh Go.Proofs.YtcgibpdjfgjldaaGreatDoor.Nm
def outR(fu:Fu)(k a:Int)(s:Bs)(l:List Tz)(c:Sf):Rf Sf:=
 aP (hdB l c.nd (xC fu 61 c.kn)) fun q=>if q.1=true/\k = 9 then .bad a 130 else .ok { c with nd:=q.2,ou:=c.ou ++ [(s,q.1,decide (k = 9))] }
def Nw(vl vl':Value)(w:World):Prop:=vl'.ownBlock=vl.ownBlock\/∃ n,w.heap.size<=n/\vl'.ownBlock=some n
def OuP(w0 w:World)(G:Gx)(vl:Value)(fu:Fu)(k0:Kw)(fm:Kw)(m:Nat)(r:Rf Sf)(e:Ending)(w':World):Prop:=
 match r with
 | .ok c=>e = .returned (.tuple #[])/\∃ vl',CG w0 w' G vl' fu k0 c fm (m+1)/\Nw vl vl' w/\Upd (fun b=>b=G.g\/vl.ownBlock=some b) w w'
 | .bad a er=>e=panF a er/\Upd (fun b=>b=G.g\/vl.ownBlock=some b) w w'
theorem fst3{w:World}{g:Nat}{t:TypeId}{a b c:Value}(H:Aa w g t #[a,b,c]):w.cell? ⟨g,0,none⟩=some a/\w.cell? ⟨g,1,none⟩=some b/\w.cell? ⟨g,2,none⟩=some c/\w.frozen? ⟨g,0,none⟩=false/\w.frozen? ⟨g,1,none⟩=false/\w.frozen? ⟨g,2,none⟩=false:=
 ⟨H.cell 0,H.cell 1,H.cell 2,H.frozen 0,H.frozen 1,H.frozen 2⟩
structure OuI(w0 w wx:World)(G:Gx)(vl:Value)(fu:Fu)(k0:Kw)(c:Sf)(fm:Kw)(m:Nat)(lb:Nat)(s:Bs)(sc sh:Bool)(nd:Int)(nb:Array Value):Prop where
 cg:CG w0 wx G vl fu k0 { c with nd:=nd } fm m
 lab:Aa wx lb 36 #[.string ⟨s.toArray⟩,.bool sc,.bool sh]
 nod:Aa wx w.heap.size 26 nb
 upd:Upd (fun b=>b=G.g) w wx
 new:w.heap.size < lb
theorem q6W{X:Nat->Prop}{w w1 w2:World}(h:Upd X w w1){lb:Nat}(hl:w.heap.size<=lb)(h2:Upd (fun b=>b=lb) w1 w2):Upd X w w2:=dm h h2 fun b hb hlt=>V0
theorem CG.far1{w0 w w':World}{G:Gx}{vl:Value}{fu:Fu}{k0:Kw}{c:Sf}{fm:Kw}{m:Nat}(h:CG w0 w G vl fu k0 c fm m){lb:Nat}(hu:Upd (fun b=>b=lb) w w')(hl:¬ ow G vl lb)(hf:G.fb≠lb)(hlo:w0.heap.size<=lb):CG w0 w' G vl fu k0 c fm m:=by
 refine ⟨h.blk.upd hu fun e=>hl (.inl e.symm),h.kno.upd hu fun e=>hl (.inr (.inl e.symm)),h.fre.upd hu fun e=>hl (.inr (.inr (.inl e.symm))),h.frk,h.dom,?_,Nm.ae h.lab hu fun b hb e=>hl (.inr (.inr (.inr (e ▸ hb)))),h.dis,h.low,h.oub,h.rdb,h.bel.trans (hu.below (B:=w0.heap.size) h.bel.size fun b hb=>hb ▸ hlo),h.fok⟩;obtain ⟨mf,hm⟩:=h.fun_;exact ⟨mf,hm.upd hu hf⟩
theorem output_{w0:World}(w:World)(G:Gx)(vl:Value)(fu:Fu)(k0:Kw)(c:Sf)(fm:Kw)(m:Nat)(hG:CG w0 w G vl fu k0 c fm m)(hm:m+1<=1099511627776)(ps:List Bs)(l:List Tz)(k a:Int)(s:Bs)(n:Nat)(A:Option Addr)(la cA:Nat)(B:Option Addr)(lb cB:Nat)(hT:TrV w0 (.mk k a s n ps l) k a s n A la cA B lb cB)(hok:okCs fu (l.take 1)) :
  Calls Tryz.prog 122 #[.pointer (some ⟨G.g,0,none⟩),aO k a s n A la cA B lb cB] w (OuP w0 w G vl fu k0 fm m (outR fu k a s l c)):=by
 obtain ⟨i0,hi,hz⟩:=Option.map_eq_some_iff.1 infoL;have hz0:=congrArg (·.1) hz;have hz1:=congrArg (·.2.1) hz;have hz2:=congrArg (·.2.2) hz;have HI:=Hi hi;have HZ0:=Hi hz0;have HZ1:=Hi hz1;have HZ2:=Hi hz2;clear hi hz hz0 hz1 hz2;obtain ⟨wn,hwn,hbn,aK,hsn⟩:=dw w (nB k a s n A la cA B lb cB);have hdr:Below wn.heap.size wn wn.drew:=Below.drew (Below.refl _ _);obtain ⟨wd,hwd⟩:∃ u,wn.drew=u:=⟨_,rfl⟩;rw [hwd] at hdr;have hbd:=hbn.trans (hdr.mono hbn.size);have hsd:wd.heap.size=w.heap.size+1:=by rw [<-hwd];exact hsn
 have HGd:=Hi (hG.below hbd);have HXd:=Hi (aK.below hdr aK.lt);have HUd:=Hi (Upd.of_below hbd (fun b=>b=G.g));have HW:=Hi hwn;have HWD:=Hi hwd;have HSD:=Hi hsd;have HTT:=Hi hT;have HOK:=Hi hok;have HM:=Hi hm;have HOW:=Hi hG.lt;have HNX:=Hi (show ¬ w.heap.size=G.g from by have:=hG.lt _ (.inl rfl);omega);obtain ⟨rv,hrv⟩:∃ rv,hdB l c.nd (xC fu 61 c.kn)=rv:=⟨_,rfl⟩;obtain ⟨res,hres⟩:∃ res,outR fu k a s l c=res:=⟨_,rfl⟩;rw [hres];unfold outR at hres;rw [hrv] at hres;have Ad:=Hi hres;have HRV:=Hi hrv;have hkk:(k==9)=decide (k = 9):=by rw [Bool.eq_iff_iff];simp
 obtain ⟨sh,hsh⟩:∃ sh,(k==9)=sh:=⟨_,rfl⟩;have HSH:=Hi (show decide (k = 9)=sh from hkk.symm.trans hsh);clear hG hT hok hwn hbn aK hsn hdr hwd hbd hsd hres hrv hm hkk;go_enter Tryz.func122,Tryz.ntmps122;go_upto_region 1 with fail
 rw [HW.out]
 go_cut [4] from 5 to 13 (fun s4 wx=>∃ (lb0:Nat) (sc:Bool) (nd:Int),s4 = .pointer (some ⟨lb0,0,none⟩)/\Hid (OuI w0 w wx G vl fu k0 c fm m lb0 s sc sh nd (nB k a s n A la cA B lb cB))/\Hid (rv = .ok (sc,nd)))
 case first=>
  have hwd:=HWD.out;have aa:Upd (fun b=>b=G.g) wd wd:=Upd.refl _ _;refine HT.wp_region (Z:=fun w'=>Upd (fun b=>b=G.g) wd w') (S:=fun _=>True) (st:=[]) V1 ?_;rw [hwd];clear hwd;refine HT.k 0 rfl Vn aa ?_;refine HT.k 1 rfl Vn aa ?_;refine HT.m 2 aa ?_;refine HT.k 3 rfl Vn aa ?_;refine HT.k 5 rfl Vn aa ?_;refine HT.k 6 rfl Vn aa ?_;refine HT.m 7 aa ?_;refine HT.two (i:=4) (j:=9) V1 rfl rfl (fun K hK=>?_) (fun K hK=>?_)
  ·go_simp;have HV:=Hi (value_ wd G vl fu k0 c fm m HGd.out ps l k a s n A la cA B lb cB HTT.out HOK.out);rw [HRV.out] at HV;refine (show Calls Tryz.prog 121 #[.pointer (some ⟨G.g,0,none⟩),aO k a s n A la cA B lb cB] wd _ from HV.out).mono ?_;intro e w4 h4;cases rv with
   | bad a2 er2=>
    obtain ⟨rfl,aF⟩:=h4;have Ac:=Hi (show OuP w0 w G vl fu k0 fm m res (panF a2 er2) w4 from by
     rw [<-show Rf.bad a2 er2=res from Ad.out];exact ⟨rfl,(HUd.out.trans aF).mono fun b hb=>.inl hb⟩)
    exact Vl
   | ok q=>
    obtain ⟨sc,nd⟩:=q;obtain ⟨rfl,hG4,aF⟩:=h4;have hz4:Upd (fun b=>b=G.g) wd w4:=aF;(try dsimp only);refine hK.out _ _ hz4 trivial ?_;clear hK K;(try simp only [HT.pS]);refine HT.m 8 hz4 ?_;obtain ⟨w5,hw5,hb5,hX5⟩:=aS w4 #[.string ⟨#[]⟩,.bool false,.bool false] 36;have hz5:Upd (fun b=>b=G.g) wd w5:=hz4.trans (Upd.of_below hb5 _);obtain ⟨l5,hl5⟩:∃ l5,w4.heap.size=l5:=⟨_,rfl⟩;rw [hl5] at hX5;have hl5d:w.heap.size < l5:=by have:=hz4.size;have:=HSD.out;omega
    refine HT.one (i:=9) V1 rfl (fun K hK=>?_);go_simp;(try rw [hw5]);(try rw [hl5]);(try dsimp only);refine hK.out _ _ hz5 trivial ?_;clear hK K;(try simp only [HT.pS]);obtain ⟨d0,d1,d2,f0,f1,f2⟩:=fst3 hX5;have hgl:=hX5.lt;have di:Upd (fun b=>b=G.g) wd (((w5.setCell ⟨l5,0,none⟩ (.string ⟨s.toArray⟩)).setCell ⟨l5,1,none⟩ (.bool sc)).setCell ⟨l5,2,none⟩ (.bool sh)):=((hz5.setCell (p:=⟨l5,0,none⟩) (fun h=>absurd h V04) _).setCell (p:=⟨l5,1,none⟩) (fun h=>absurd h V04) _).setCell (p:=⟨l5,2,none⟩) (fun h=>absurd h V04) _;have hus:Upd (fun b=>b=l5) w5 (((w5.setCell ⟨l5,0,none⟩ (.string ⟨s.toArray⟩)).setCell ⟨l5,1,none⟩ (.bool sc)).setCell ⟨l5,2,none⟩ (.bool sh)):=(((Upd.refl (fun b=>b=l5) w5).setCell (p:=⟨l5,0,none⟩) (fun _=>rfl) _).setCell (p:=⟨l5,1,none⟩) (fun _=>rfl) _).setCell (p:=⟨l5,2,none⟩) (fun _=>rfl) _;have HI5:=Hi (show OuI w0 w (((w5.setCell ⟨l5,0,none⟩ (.string ⟨s.toArray⟩)).setCell ⟨l5,1,none⟩ (.bool sc)).setCell ⟨l5,2,none⟩ (.bool sh)) G vl fu k0 c fm m l5 s sc sh nd (nB k a s n A la cA B lb cB) from
     ⟨(hG4.below hb5).far1 hus (fun h=>by have:=hG4.lt _ h;omega) (by obtain ⟨mf,hf⟩:=hG4.fun_;have:=hf.lt;omega) (by have:=hG4.bel.size;omega),((hX5.set 0 _).set 1 _).set 2 _,HXd.out.upd di HNX.out,HUd.out.trans di,hl5d⟩)
    refine HT.one (i:=10) V1 rfl (fun K hK=>?_);go_simp;(try dsimp only);refine hK.out _ _ di trivial ?_;clear hK K;(try simp only [HT.pS]);refine HT.done V1 ?_;clear hz4 hz5 di hus hG4 aF hw5 hb5 hX5 hl5 d0 d1 d2 f0 f1 f2 aa;go_wp2_with fail
    go_meet
    exact ⟨_,_,_,rfl,HI5,Hi rfl⟩
  ·obtain ⟨w5,hw5,hb5,hX5⟩:=aS wd #[.string ⟨#[]⟩,.bool false,.bool false] 36;have hz5:Upd (fun b=>b=G.g) wd w5:=Upd.of_below hb5 _;obtain ⟨l5,hl5⟩:∃ l5,wd.heap.size=l5:=⟨_,rfl⟩;rw [hl5] at hX5;have hl5d:w.heap.size < l5:=by have:=HSD.out;omega
   go_simp;(try rw [hw5]);(try rw [hl5]);(try dsimp only);refine hK.out _ _ hz5 trivial ?_;clear hK K;(try simp only [HT.pS]);refine HT.one (i:=4) V1 rfl (fun K hK=>?_);go_simp;have HV:=Hi (value_ w5 G vl fu k0 c fm m (HGd.out.below hb5) ps l k a s n A la cA B lb cB HTT.out HOK.out);rw [HRV.out] at HV;refine (show Calls Tryz.prog 121 #[.pointer (some ⟨G.g,0,none⟩),aO k a s n A la cA B lb cB] w5 _ from HV.out).mono ?_;intro e w4 h4;cases rv with
   | bad a2 er2=>
    obtain ⟨rfl,aF⟩:=h4;have Ac:=Hi (show OuP w0 w G vl fu k0 fm m res (panF a2 er2) w4 from by
     rw [<-show Rf.bad a2 er2=res from Ad.out];exact ⟨rfl,((HUd.out.trans hz5).trans aF).mono fun b hb=>.inl hb⟩)
    exact Vl
   | ok q=>
    obtain ⟨sc,nd⟩:=q;obtain ⟨rfl,hG4,aF⟩:=h4;have hz4:Upd (fun b=>b=G.g) wd w4:=hz5.trans aF;(try dsimp only);refine hK.out _ _ hz4 trivial ?_;clear hK K;(try simp only [HT.pS]);refine HT.m 8 hz4 ?_;have hgn5:¬ l5=G.g:=by have:=HGd.out.lt _ (.inl rfl);omega
    have hX4:=hX5.upd aF hgn5;obtain ⟨d0,d1,d2,f0,f1,f2⟩:=fst3 hX4;have hgl:=hX4.lt;have di:Upd (fun b=>b=G.g) wd (((w4.setCell ⟨l5,0,none⟩ (.string ⟨s.toArray⟩)).setCell ⟨l5,1,none⟩ (.bool sc)).setCell ⟨l5,2,none⟩ (.bool sh)):=((hz4.setCell (p:=⟨l5,0,none⟩) (fun h=>absurd h V04) _).setCell (p:=⟨l5,1,none⟩) (fun h=>absurd h V04) _).setCell (p:=⟨l5,2,none⟩) (fun h=>absurd h V04) _;have hus:Upd (fun b=>b=l5) w4 (((w4.setCell ⟨l5,0,none⟩ (.string ⟨s.toArray⟩)).setCell ⟨l5,1,none⟩ (.bool sc)).setCell ⟨l5,2,none⟩ (.bool sh)):=(((Upd.refl (fun b=>b=l5) w4).setCell (p:=⟨l5,0,none⟩) (fun _=>rfl) _).setCell (p:=⟨l5,1,none⟩) (fun _=>rfl) _).setCell (p:=⟨l5,2,none⟩) (fun _=>rfl) _;have HI5:=Hi (show OuI w0 w (((w4.setCell ⟨l5,0,none⟩ (.string ⟨s.toArray⟩)).setCell ⟨l5,1,none⟩ (.bool sc)).setCell ⟨l5,2,none⟩ (.bool sh)) G vl fu k0 c fm m l5 s sc sh nd (nB k a s n A la cA B lb cB) from
     ⟨hG4.far1 hus (fun h=>by have:=HGd.out.lt _ h;omega) (by obtain ⟨mf,hf⟩:=HGd.out.fun_;have:=hf.lt;omega) (by have:=HGd.out.bel.size;omega),((hX4.set 0 _).set 1 _).set 2 _,HXd.out.upd di HNX.out,HUd.out.trans di,hl5d⟩)
    refine HT.one (i:=10) V1 rfl (fun K hK=>?_);go_simp;(try dsimp only);refine hK.out _ _ di trivial ?_;clear hK K;(try simp only [HT.pS]);refine HT.done V1 ?_;clear hz4 di hus hG4 aF hX4 d0 d1 d2 f0 f1 f2 aa;go_wp2_with fail
    go_meet
    exact ⟨_,_,_,rfl,HI5,Hi rfl⟩
 case rest=>
  obtain ⟨lb0,sc,nd,rfl,HI5,HRV2⟩:=hcut;have hr:=Ad.out;rw [HRV2.out] at hr;have hr2:(if sc=true/\k = 9 then Rf.bad a 130 else .ok { c with nd:=nd,ou:=c.ou ++ [(s,sc,decide (k = 9))] })=res:=hr;rw [HSH.out] at hr2;have HR2:=Hi hr2;have hI:=HI5.out;obtain ⟨d0,d1,d2,f0,f1,f2⟩:=fst3 hI.lab;have hgl:=hI.lab.lt;obtain ⟨⟨e0,e1,e2,e3,e4,e5⟩,z0,z1,z2,z3,z4,z5⟩:=Aa.c6 hI.nod;have hgn:=hI.nod.lt;clear hr hr2 hI HRV HRV2 Ad HOK HTT HGd HXd HUd HSD HWD HW;generalize wc=wD at *;by_cases hbad:sc=true/\sh=true
  ·obtain ⟨rfl,rfl⟩:=hbad;have Ac:=Hi (show OuP w0 w G vl fu k0 fm m res (panF a 130) wD from by
    rw [<-HR2.out,if_pos ⟨rfl,of_decide_eq_true HSH.out⟩];exact ⟨rfl,HI5.out.upd.mono fun b hb=>.inl hb⟩)
   exact Vk
  ·have hr3:Rf.ok { c with nd:=nd,ou:=c.ou ++ [(s,sc,sh)] }=res:=by
    rw [<-HR2.out,if_neg (fun h=>hbad ⟨h.1,by rw [<-HSH.out];exact decide_eq_true h.2⟩)]
   have HR3:=Hi hr3;have hdr:Below wD.heap.size wD wD.drew:=Below.drew (Below.refl _ _);obtain ⟨wz,hwd⟩:∃ u,wD.drew=u:=⟨_,rfl⟩;rw [hwd] at hdr;have HGz:=Hi (HI5.out.cg.below hdr);have HLz:=Hi (HI5.out.lab.below hdr HI5.out.lab.lt);have HUz:=Hi (HI5.out.upd.trans (Upd.of_below hdr _));have HNL:=Hi (show ¬ (vl.ownBlock=some lb0\/lb0=G.g) from fun h=>by
    have:=HI5.out.new;rcases h with h | h
    ·have:=HOW.out _ (.inr (.inr (.inr h)));omega
    ·have:=HOW.out _ (.inl rfl);omega)
   have hd:=HGz.out.dis;have HGV:=Hi (show ¬ vl.ownBlock=some G.g from fun h=>(hd.2.2.2.2.2.2 _ h).1 rfl);have aa:Upd (fun b=>vl.ownBlock=some b\/b=G.g) wz wz:=Upd.refl _ _;have hS0:Upd (fun b=>vl.ownBlock=some b) wz wz:=Upd.refl _ _;obtain ⟨w4,hw4,hb4,-⟩:=aS wz #[.string ⟨s.toArray⟩,.bool sc,.bool sh] 36;have hL4:Af w4 (some ⟨wz.heap.size,0,none⟩) (lbC (s,sc,sh)):=by rw [<-hw4];exact q06 _ _ _
   have ho4:w4.ownsRow w0.heap.size 36 3 vl c.ou.length (c.ou.flatMap lbC):=Nm.ae HGz.out.lab (Upd.of_below hb4 fun _=>False) fun _ _ h=>h
   have hlo4:w0.heap.size<=w4.heap.size:=Nat.le_trans HGz.out.bel.size hb4.size;have hou:c.ou.length+1<=1099511627776:=by have h1:c.ou.length<=m:=HGz.out.oub;have:=HM.out;omega
   have hz4:Upd (fun b=>vl.ownBlock=some b\/b=G.g) wz w4:=Upd.of_below hb4 _;have hs4:Upd (fun b=>vl.ownBlock=some b) wz w4:=Upd.of_below hb4 _;have HWD:=Hi hwd;have hsz:=HLz.out.lt;have hbad2:¬ (sc=true/\sh=true):=hbad;clear hr3 hbad hdr hwd hd e0 e1 e2 e3 e4 e5 z0 z1 z2 z3 z4 z5 hgn;have fin:∀ (vA:Option Addr) (vc:Nat) (w8:World),Upd (fun b=>vl.ownBlock=some b) wz w8->w8.ownsRow w0.heap.size 36 3 (.slice vA (c.ou.length+1) vc) (c.ou.length+1) (c.ou.flatMap lbC ++ lbC (s,sc,sh))->((Value.slice vA (c.ou.length+1) vc).ownBlock=vl.ownBlock\/(Value.slice vA (c.ou.length+1) vc).ownBlock=some w4.heap.size) ->
     OuP w0 w G vl fu k0 fm m res (.returned (.tuple #[])) (w8.setCell ⟨G.g,2,none⟩ (.slice vA (c.ou.length+1) vc)):=fun vA vc w8 aV hown hat=>by
    rw [<-HR3.out];have hg:=HGz.out;have hd:=hg.dis;have hlt:=hg.lt;have hfn:∀ b,(Value.slice vA (c.ou.length+1) vc).ownBlock=some b->b≠G.g/\b≠G.kb/\b≠G.rb/\b≠G.fb:=fun b hb=>by
     rcases hat with h | h
     ·rw [h] at hb;exact hd.2.2.2.2.2.2 b hb
     ·rw [h] at hb;cases hb;have h1:=hb4.size;obtain ⟨mf,hf⟩:=hg.fun_;have h2:=hf.lt;have h3:=hlt _ (.inl rfl);have h4:=hlt _ (.inr (.inl rfl));have h5:=hlt _ (.inr (.inr (.inl rfl)));omega
    have hu:Upd (fun b=>b=G.g\/vl.ownBlock=some b) wz (w8.setCell ⟨G.g,2,none⟩ (.slice vA (c.ou.length+1) vc)):=(aV.mono fun b hb=>.inr hb).setCell (p:=⟨G.g,2,none⟩) (fun _=>.inl rfl) _;refine ⟨rfl,.slice vA (c.ou.length+1) vc,⟨(hg.blk.upd aV HGV.out).set 2 _,?_,?_,hg.frk,hg.dom,?_,?_,⟨hd.1,hd.2.1,hd.2.2.1,hd.2.2.2.1,hd.2.2.2.2.1,hd.2.2.2.2.2.1,hfn⟩,?_,?_,hg.rdb,?_,hg.fok⟩,?_,?_⟩
    ·exact ((hg.kno.upd aV (fun h=>(hd.2.2.2.2.2.2 _ h).2.1 rfl)).heap (q0C hd.1)).mono (Nat.le_succ m)
    ·exact ((hg.fre.upd aV (fun h=>(hd.2.2.2.2.2.2 _ h).2.2.1 rfl)).heap (q0C hd.2.1)).mono (Nat.le_succ m)
    ·obtain ⟨mf,hf⟩:=hg.fun_;refine ⟨mf,?_⟩;have h1:=hf.upd aV (fun h=>(hd.2.2.2.2.2.2 _ h).2.2.2 rfl);obtain ⟨kd,q1,q2⟩:=h1;exact ⟨kd,q1.heap (q0C hd.2.2.1),q2⟩
    ·show (w8.setCell _ _).ownsRow _ _ 3 _ (c.ou ++ [(s,sc,sh)]).length ((c.ou ++ [(s,sc,sh)]).flatMap lbC);rw [List.length_append,List.flatMap_append];refine q0r ?_ fun h=>(hfn _ h).1 rfl
     simpa using hown
    ·intro b hb;rcases hb with h | h | h | h
     ·exact hg.low b (.inl h)
     ·exact hg.low b (.inr (.inl h))
     ·exact hg.low b (.inr (.inr (.inl h)))
     ·exact (Nm.av hown b h).1
    ·show (c.ou ++ [_]).length<=m+1;rw [List.length_append];have h1:c.ou.length<=m:=hg.oub;show c.ou.length+1<=m+1;omega
    ·exact hg.bel.trans (hu.below (B:=w0.heap.size) hg.bel.size fun b hb=>hb.elim (fun h=>hg.low b (.inl h)) fun h=>hg.low b (.inr (.inr (.inr h))))
    ·rcases hat with h | h
     ·exact .inl h
     ·exact .inr ⟨_,Nat.le_trans HUz.out.size hb4.size,h⟩
    ·exact (HUz.out.mono fun b hb=>.inl hb).trans hu
   have HFIN:=Hi fin;clear fin;have HOC:=Hi (show c.ou.length<=1099511627776 from V0);have hte:(sc && sh)=false:=by
    cases sc <;> cases sh <;> first | rfl | exact absurd ⟨rfl,rfl⟩ hbad2
   clear hbad2;cases sc with
   | false=>
    clear hte;go_upto_region 4 with fail
    have hwd:=HWD.out;clear d0 d1 d2 f0 f1 f2 HWD;refine HT.wp_region (Z:=fun w'=>Upd (fun b=>vl.ownBlock=some b\/b=G.g) wz w') (S:=fun w'=>Upd (fun b=>vl.ownBlock=some b) wz w') (st:=[10]) V1 ?_;rw [hwd];clear hwd;refine HT.tm 0 rfl aa (fun _=>hS0) ?_;refine HT.tm 1 rfl aa (fun _=>hS0) ?_;refine HT.tm 2 rfl aa (fun _=>hS0) ?_;refine HT.tm 3 rfl aa (fun _=>hS0) ?_;refine HT.ts 4 rfl V2W aa hS0 ?_;refine HT.tk 5 rfl V2X aa (fun _=>hS0) ?_;refine HT.one (i:=6) V1 rfl (fun K hK=>?_);go_simp;(try rw [hw4]);(try dsimp only);refine hK.out _ _ hz4 hs4 ?_;clear hK K;(try simp only [HT.pS]);refine HT.one (i:=7) V1 rfl (fun K hK=>?_);refine q0b rfl _ _ 31 rfl w0.heap.size 36 i0 (.agg #[.string ⟨#[]⟩,.bool false,.bool false]) 3 24 Tryz.underlying31 HI.out HZ0.out HZ1.out HZ2.out rfl V2 vl c.ou.length _ rfl ho4 (some ⟨wz.heap.size,0,none⟩) 1 1 (lbC (s,false,sh)) rfl rfl hL4 (by simp [lbC,Value.oneCell']) V6 V0 hlo4 ?_;exact V2q
   | true=>
    have hsh2:sh=false:=by simpa using hte
    subst hsh2;clear hte;go_upto_region 4 with fail
    have hwd:=HWD.out;clear d0 d1 d2 f0 f1 f2 HWD;refine HT.wp_region (Z:=fun w'=>Upd (fun b=>vl.ownBlock=some b\/b=G.g) wz w') (S:=fun w'=>Upd (fun b=>vl.ownBlock=some b) wz w') (st:=[10]) V1 ?_;rw [hwd];clear hwd;refine HT.tm 0 rfl aa (fun _=>hS0) ?_;refine HT.tm 1 rfl aa (fun _=>hS0) ?_;refine HT.tm 2 rfl aa (fun _=>hS0) ?_;refine HT.tm 3 rfl aa (fun _=>hS0) ?_;refine HT.ts 4 rfl V2W aa hS0 ?_;refine HT.tk 5 rfl V2X aa (fun _=>hS0) ?_;refine HT.one (i:=6) V1 rfl (fun K hK=>?_);go_simp;(try rw [hw4]);(try dsimp only);refine hK.out _ _ hz4 hs4 ?_;clear hK K;(try simp only [HT.pS]);refine HT.one (i:=7) V1 rfl (fun K hK=>?_);refine q0b rfl _ _ 31 rfl w0.heap.size 36 i0 (.agg #[.string ⟨#[]⟩,.bool false,.bool false]) 3 24 Tryz.underlying31 HI.out HZ0.out HZ1.out HZ2.out rfl V2 vl c.ou.length _ rfl ho4 (some ⟨wz.heap.size,0,none⟩) 1 1 (lbC (s,true,false)) rfl rfl hL4 (by simp [lbC,Value.oneCell']) V6 V0 hlo4 ?_;exact V2q
def SP(w0 w:World)(G:Gx)(vl:Value)(fu:Fu)(k0:Kw)(m rd0 cost:Nat)(r:Rf Sf)(e:Ending)(w':World):Prop:=
 match r with
 | .ok c=>e = .returned (.tuple #[])/\∃ vl' fm' m',CG w0 w' G vl' fu k0 c fm' m'/\Nw vl vl' w/\Upd (ow G vl) w w'/\m'+rd0 * 134217728<=m+cost+c.rd * 134217728/\rd0<=c.rd
 | .bad a er=>e=panF a er/\Upd (ow G vl) w w'
abbrev xT(fu:Fu):Tz->Sf->Rf Sf:=sfT aX XM 61 2000 fu
abbrev xTs(fu:Fu):Nat->List Tz->Sf->Rf Sf:=sfTs aX XM 61 2000 fu
def StAt(w0:World)(fu:Fu)(z:Tz):Prop:=
 ∀ (w:World) (G:Gx) (vl:Value) (k0:Kw) (c:Sf) (fm:Kw) (m:Nat) (k a:Int) (s:Bs) (n:Nat) (A:Option Addr) (la cA:Nat) (B:Option Addr) (lb cB:Nat),CG w0 w G vl fu k0 c fm m->nbz z<=134217728->m+nbz z<=(c.rd+1) * 134217728->TrV w0 z k a s n A la cA B lb cB->okS fu z ->
  Calls Tryz.prog 95 #[.pointer (some ⟨G.g,0,none⟩),aO k a s n A la cA B lb cB] w (SP w0 w G vl fu k0 m c.rd (nbz z) (xT fu z c))
theorem Nw.refl(vl:Value)(w:World):Nw vl vl w:=.inl rfl
theorem Nw.trans{vl vl1 vl2:Value}{w w1:World}(h:Nw vl vl1 w)(hs:w.heap.size<=w1.heap.size)(h2:Nw vl1 vl2 w1):Nw vl vl2 w:=by
 rcases h2 with h2 | ⟨n,h3,h4⟩
 ·rcases h with h | ⟨n,h3,h4⟩
  ·exact .inl (h2.trans h)
  ·exact .inr ⟨n,h3,h2.trans h4⟩
 ·exact .inr ⟨n,Nat.le_trans hs h3,h4⟩
theorem q86{G:Gx}{vl vl':Value}{w:World}(h:Nw vl vl' w):∀ b,ow G vl' b->b < w.heap.size->ow G vl b:=fun b hb hlt=>by
 rcases hb with hb | hb | hb | hb
 ·exact .inl hb
 ·exact .inr (.inl hb)
 ·exact .inr (.inr (.inl hb))
 ·rcases h with h | ⟨n,h3,h4⟩
  ·exact .inr (.inr (.inr (h ▸ hb)))
  ·rw [h4] at hb;cases hb;omega
theorem q4O(fu:Fu)(i:Nat)(c:Sf):xTs fu i [] c = .ok c:=by unfold xTs sfTs;rfl
theorem q87(fu:Fu)(x:Tz)(l:List Tz)(c:Sf):xTs fu 0 (x :: l) c=aP (xT fu x c) fun d=>xTs fu 0 l d:=by conv=>lhs;unfold xTs sfTs
theorem q5q(fu:Fu):∀ (i:Nat) (l:List Tz) (c:Sf),xTs fu i l c=xTs fu 0 (l.drop i) c
 | 0,l,c=>rfl
 | i+1,[],c=>by rw [q4O];simp [q4O]
 | i+1,x :: l,c=>by
  rw [List.drop_succ_cons,<-q5q fu i l c]
  conv=>lhs;unfold xTs sfTs
theorem nbzs_drop{l:List Tz}{i:Nat}{y:Tz}(h:l[i]?=some y):au (l.drop i)=nbz y+au (l.drop (i+1)):=by
 rw [drop_at h];rfl
theorem q5r:∀ {l:List Tz} {i:Nat} {y:Tz},l[i]?=some y->nbz y<=au l
 | [],i,y,h=>Vc
 | x :: l,0,y,h=>by
  have:x=y:=Va;subst this;show nbz x<=nbz x+au l;omega
 | x :: l,i+1,y,h=>by
  have h1:=q5r (l:=l) (i:=i) (y:=y) Va;show nbz y<=nbz x+au l;omega
theorem statements_{w0:World}{fu:Fu}(l:List Tz)(H:∀ y∈l,StAt w0 fu y)(w:World)(G:Gx)(vl:Value)(k0:Kw)(c:Sf)(fm:Kw)(m:Nat)(A:Option Addr)(cA:Nat)(hG:CG w0 w G vl fu k0 c fm m)(hk:au l<=134217728)(hm:m+au l<=(c.rd+1) * 134217728)(hP:Pts w0 A cA l)(hok:okSs fu 0 l) :
  Calls Tryz.prog 62 #[.pointer (some ⟨G.g,0,none⟩),.slice A l.length cA] w (SP w0 w G vl fu k0 m c.rd (au l) (xTs fu 0 l c)):=by
 have hlm:l.length<=9223372036854775807:=Nat.le_trans hP.le hP.cap;have HH:=Hi H;have HP:=Hi hP;have HOK:=Hi hok;have HG:=Hi hG;have HM:=Hi hm;have HK:=Hi hk;obtain ⟨res,hres⟩:∃ res,xTs fu 0 l c=res:=⟨_,rfl⟩;rw [hres];have Ad:=Hi hres;clear H hP hok hG hm hk hres;go_enter Tryz.func62,Tryz.ntmps62;go_wp2_with fail
 go_loopw [8] (fun vi wr=>∃ (i:Nat) (ci:Sf) (vli:Value) (fmi:Kw) (mi:Nat),i<=l.length/\vi = .int .i64 (i:Int)/\Hid (CG w0 wr G vli fu k0 ci fmi mi)/\Hid (Nw vl vli w)/\Hid (Upd (ow G vl) w wr)/\Hid (mi+c.rd * 134217728+au (l.drop i)<=m+au l+ci.rd * 134217728/\c.rd<=ci.rd)/\Hid (xTs fu 0 (l.drop i) ci=res)) (fun vi _=>l.length - (intOf vi).toNat)
 case atStart=>exact ⟨0,c,vl,fm,m,V0,rfl,HG,Hi (Nw.refl _ _),Hi (Upd.refl _ _),Hi ⟨by show m+c.rd * 134217728+au l<=_;omega,Nat.le_refl _⟩,Ad⟩
 case round=>
  obtain ⟨i,ci,vli,fmi,mi,hi,rfl,HGi,HN,HU,HB,HQ⟩:=hrel;by_cases hlt:i < l.length
  ·have hil:(i:Int) < (l.length:Int):=by omega
   obtain ⟨y,hy⟩:∃ y,l[i]?=some y:=⟨_,List.getElem?_eq_getElem hlt⟩;obtain ⟨bb,o,k',a',s',n',A',la',bu,B',lb',bA,hA,hTy,hbl,g0',g1,g2,g3,g4,g5⟩:=HP.out.at_ HGi.out.bel hy;subst hA;obtain ⟨wb,hwb,hbb,hXb,hsb⟩:=dw wr (nB k' a' s' n' A' la' bu B' lb' bA);have hnb:=nbzs_drop hy;have hb1:=HB.out.1;have hb2:=HB.out.2;have hmm:=HM.out;have hCc:=HH.out y (List.mem_of_getElem? hy) wb G vli k0 ci fmi mi k' a' s' n' A' la' bu B' lb' bA (HGi.out.below hbb) (Nat.le_trans (q5r hy) HK.out) (by rw [hnb] at hb1;omega) hTy (q6R HOK.out hy);have hq:=HQ.out;rw [drop_at hy,q87] at hq;obtain ⟨⟨e0,e1,e2,e3,e4,e5⟩,z0,z1,z2,z3,z4,z5⟩:=Aa.c6 hXb;have HCC:=Hi hCc;have HWB:=Hi hwb;have AL:=Hi hq;have HUB:=Hi (HU.out.trans (Upd.of_below hbb _));have HNB:=Hi hnb;have HBS:=Hi hbb.size;have hbl2:bb < wr.heap.size:=Nat.lt_of_lt_of_le hbl HGi.out.bel.size;clear hCc hwb hbb hXb hq hTy hy hsb hb1 hb2 hmm hnb;generalize xT fu y ci=r2 at HCC AL;go_wp2_with fail
   rw [HWB.out];refine (show Calls Tryz.prog 95 #[.pointer (some ⟨G.g,0,none⟩),aO k' a' s' n' A' la' bu B' lb' bA] wb _ from HCC.out).mono ?_;intro e w4 h4;clear e0 e1 e2 e3 e4 e5 z0 z1 z2 z3 z4 z5;cases r2 with
   | bad a2 er2=>
    obtain ⟨rfl,aF⟩:=h4;have Ac:=Hi (show SP w0 w G vl fu k0 m c.rd (au l) res (panF a2 er2) w4 from by
     rw [<-show Rf.bad a2 er2=res from AL.out];exact ⟨rfl,dm HUB.out aF (q86 HN.out)⟩)
    exact VW
   | ok d=>
    obtain ⟨rfl,vl4,fm4,m4,hG4,hN4,aF,hb4,hr4⟩:=h4;have H1:=Hi hG4;have H2:=Hi (HN.out.trans (show w.heap.size<=wb.heap.size from HUB.out.size) hN4);have H3:=Hi (dm HUB.out aF (q86 HN.out));have H4:=Hi (show m4+c.rd * 134217728+au (l.drop (i+1))<=m+au l+d.rd * 134217728/\c.rd<=d.rd from by
     have h1:=HB.out.1;have h2:=HB.out.2;have h3:=HNB.out;omega)
    have H5:=Hi (show xTs fu 0 (l.drop (i+1)) d=res from AL.out);clear hG4 hN4 aF hb4 hr4;go_wp2_with fail
    go_roundw
    case rel=>exact ⟨i+1,d,vl4,fm4,m4,V0,V7,H1,H2,H3,H4,H5⟩
    case measure=>simp [intOf];omega
  ·obtain rfl:i=l.length:=by omega
   have hq:=HQ.out;rw [List.drop_length,q4O] at hq;have Ac:=Hi (show SP w0 w G vl fu k0 m c.rd (au l) res (.returned (.tuple #[])) wr from by
    rw [<-hq];exact ⟨rfl,vli,fmi,mi,HGi.out,HN.out,HU.out,by have h1:=HB.out.1;omega,HB.out.2⟩)
   clear hq;exact Vd
section
variable {α : Type} {c : Cod α} {w w' : World} {b r n : Nat} {kn kn' : Bs -> Option α} {left : Bs -> Bool} {cnt : Nat}
theorem MpR.kept{row:Option Nat}(h:MpR c w b r n kn left cnt)(hg:w.grownBy w' row)(hb:some b≠row)(hr:some r≠row):MpR c w' b r n kn left cnt:=by
 obtain ⟨D,l,h1,h2,h3⟩:=h;exact ⟨D,l,h1.kept hg hb hr,h2,h3⟩
theorem MpR.left_eq(h:MpR c w b r n kn left cnt):w.rangeLeft b r=cnt:=by
 obtain ⟨D,l,h1,_⟩:=h;exact h1.left_eq
theorem MpG.congr(h:MpG c w b n kn)(e:∀ s:Bs,s.length<=maxLen->kn s=kn' s):MpG c w b n kn':=by
 obtain ⟨D,h1,h2⟩:=h;exact ⟨D,h1,fun s hs=>by rw [<-e s hs];exact h2 s hs⟩
end
def rndR(fu:Fu)(s:Bs)(i:BitVec 32)(l:List Tz)(c:Sf):Rf Sf:=aP (xTs fu 0 l { c with kn:=c.kn.put s ⟨false,some i⟩ }) fun d=>.ok { d with kn:=cutB c.kn d.kn }
theorem round_{w0:World}{fu:Fu}(l:List Tz)(H:∀ y∈l,StAt w0 fu y)(w:World)(G:Gx)(vl:Value)(k0:Kw)(c:Sf)(fm:Kw)(m:Nat)(s:Bs)(hs:s.length<=maxLen)(i:BitVec 32)(A:Option Addr)(cA:Nat)(hG:CG w0 w G vl fu k0 c fm m)(hk:au l<=134217728)(hm:m+1+au l<=(c.rd+1) * 134217728)(hP:Pts w0 A cA l)(hok:okSs fu 0 l) :
  Calls Tryz.prog 150 #[.pointer (some ⟨G.g,0,none⟩),.string ⟨s.toArray⟩,uV i,.slice A l.length cA] w (SP w0 w G vl fu k0 m c.rd (1+au l) (rndR fu s i l c)):=by
 obtain ⟨g,kb,fb,rb⟩:=G;obtain ⟨wm,hwm⟩:∃ wm,w.alloc (.map #[] 0)=wm:=⟨_,rfl⟩;have hbm:Below w.heap.size w wm:=V48;have hmm:MpW wm w.heap.size 0 (fun _=>none):=by rw [<-hwm];exact MpG.made codW w
 have hsm:wm.heap.size=w.heap.size+1:=by rw [<-hwm];simp
 obtain ⟨r2,hr2⟩:∃ r2,w.heap.size=r2:=⟨_,rfl⟩;have hmk:(Instr.makeMap 116 none).run Tryz.prog w = .ok (.map (some r2)) wm:=by rw [<-hwm,<-hr2];exact run_makeMap _ _
 rw [hr2] at hmm;have hd:=hG.dis;have hlt:=hG.lt;have hgl:=hlt _ (.inl rfl);have hkl:=hlt _ (.inr (.inl rfl));have hrl:=hlt _ (.inr (.inr (.inl rfl)));have hfl:fb < r2:=by
  obtain ⟨mf,hf⟩:=hG.fun_;have h1:fb < w.heap.size:=hf.lt;omega
 have hgl':g < r2:=by rw [<-hr2];exact hgl
 have hkl':kb < r2:=by rw [<-hr2];exact hkl
 have hrl':rb < r2:=by rw [<-hr2];exact hrl
 have hvl':∀ b,vl.ownBlock=some b->b < r2:=fun b hb=>by have:=hlt b (.inr (.inr (.inr hb)));omega
 have hGm:=hG.below hbm;obtain ⟨w2,hw2⟩:∃ w2,wm.setCell ⟨g,3,none⟩ (.map (some r2))=w2:=⟨_,rfl⟩;have hu2:Upd (fun b=>b=g) wm w2:=by rw [<-hw2];exact (Upd.refl (fun b=>b=g) wm).setCell (p:=⟨g,3,none⟩) (fun _=>rfl) _
 have hG2:CG w0 w2 ⟨g,kb,fb,r2⟩ vl fu c.kn c (fun _=>none) m:=by
  refine ⟨by rw [<-hw2];exact hGm.blk.set 3 _,hGm.kno.upd hu2 hd.1,(hmm.mono (Nat.zero_le m)).upd hu2 (by show ¬ r2=g;omega),fun t=>?_,fun t ht=>ht,?_,Nm.ae hGm.lab hu2 fun b hb e=>(hd.2.2.2.2.2.2 b hb).1 e,⟨hd.1,by show r2≠g;omega,hd.2.2.1,by show r2≠kb;omega,hd.2.2.2.2.1,by show fb≠r2;omega,fun b hb=>⟨(hd.2.2.2.2.2.2 b hb).1,(hd.2.2.2.2.2.2 b hb).2.1,by have:=hvl' b hb;show b≠r2;omega,(hd.2.2.2.2.2.2 b hb).2.2.2⟩⟩,?_,hG.oub,hG.rdb,hGm.bel.trans (hu2.below (B:=w0.heap.size) hGm.bel.size fun b hb=>hb ▸ hG.low _ (.inl rfl)),hG.fok⟩
  ·show false=((c.kn t).isSome && !(c.kn t).isSome);cases (c.kn t).isSome <;> rfl
  ·obtain ⟨mf,hf⟩:=hGm.fun_;exact ⟨mf,hf.upd hu2 hd.2.2.1⟩
  ·intro b hb;rcases hb with h | h | h | h
   ·exact hG.low b (.inl h)
   ·exact hG.low b (.inr (.inl h))
   ·have h':b=r2:=h;have:=hG.bel.size;omega
   ·exact hG.low b (.inr (.inr (.inr h)))
 obtain ⟨c0,c1,c2,c3,c4,c5,c6⟩:=Aa.c7 hGm.blk;have f3:=hGm.blk.frozen 3;have hgm:=hGm.blk.lt;obtain ⟨b0,b1,b2,b3,b4,b5,b6⟩:=Aa.c7 hG.blk;have hrd:=hG.rdb;have hml:m < maxLen:=V6;have HST:=Hi (set_ w2 ⟨g,kb,fb,r2⟩ vl fu c.kn c (fun _=>none) m hG2 hml s hs ⟨false,some i⟩);have Ai:=Hi (show Upd (fun b=>b=g) w w2 from (Upd.of_below hbm _).trans hu2);have HWM:=Hi hwm;have HW2:=Hi hw2;have HG:=Hi hG;have HM:=Hi hm;have HK0:=Hi hk;have HP:=Hi hP;have HOK:=Hi hok;have HH:=Hi H;have HR2:=Hi hr2;have HF:=Hi (And.intro hgl' (And.intro hkl' (And.intro hrl' (And.intro hfl hvl'))));obtain ⟨res,hres⟩:∃ res,rndR fu s i l c=res:=⟨_,rfl⟩;rw [hres];have Ad:=Hi hres;clear hbm hmm hsm hd hlt hkl hrl hfl hgl' hkl' hrl' hvl' hGm hu2 hG2 hG hm hk hP hok H hres hwm hw2 hrd hml hs hr2;go_enter Tryz.func150,Tryz.ntmps150;go_upto_region 2 with fail
 rw [HW2.out];clear c0 c1 c2 c3 c4 c5 c6 f3 hgm b0 b1 b2 b3 b4 b5 b6 hgl hmk;go_wp2_with fail
 refine (show Calls Tryz.prog 120 #[.pointer (some ⟨g,0,none⟩),.string ⟨s.toArray⟩,.agg #[.bool false,.bool true,.int .u32 (i.toNat:Int)]] w2 _ from HST.out).mono ?_;rintro e w3 ⟨rfl,fm3,hG3,hu3⟩;have HS3:=Hi (statements_ l HH.out w3 ⟨g,kb,fb,r2⟩ vl c.kn { c with kn:=c.kn.put s ⟨false,some i⟩ } fm3 (m+1) A cA hG3 HK0.out (by have:=HM.out;show m+1+au l<=_;exact this) HP.out HOK.out);have Aw:=Hi (show Upd (fun b=>b=g\/b=kb\/vl.ownBlock=some b) w w3 from dm (Ai.out.mono fun b hb=>.inl hb) hu3 fun b hb hlt=>by
  rcases hb with h | h
  ·exact .inr (.inl h)
  ·have h':b=r2:=h;have:=HR2.out;omega)
 have hr:aP (xTs fu 0 l { c with kn:=c.kn.put s ⟨false,some i⟩ }) (fun d=>.ok { d with kn:=cutB c.kn d.kn })=res:=Ad.out;obtain ⟨r1,hr1⟩:∃ r1,xTs fu 0 l { c with kn:=c.kn.put s ⟨false,some i⟩ }=r1:=⟨_,rfl⟩;rw [hr1] at hr HS3;have HR:=Hi hr;clear hG3 hu3 hr hr1 Ad HST;go_wp2_with fail
 refine (show Calls Tryz.prog 62 #[.pointer (some ⟨g,0,none⟩),.slice A l.length cA] w3 _ from HS3.out).mono ?_;intro e w4 h4;have hfin:∀ b,ow ⟨g,kb,fb,r2⟩ vl b->b < w.heap.size->b=g\/b=kb\/vl.ownBlock=some b:=fun b hb hlt=>by
  rcases hb with h | h | h | h
  ·exact .inl h
  ·exact .inr (.inl h)
  ·have h':b=r2:=h;have:=HR2.out;omega
  ·exact .inr (.inr h)
 cases r1 with
 | bad a2 er2=>
  obtain ⟨rfl,aF⟩:=h4;have Ac:=Hi (show SP w0 w ⟨g,kb,fb,rb⟩ vl fu k0 m c.rd (1+au l) res (panF a2 er2) w4 from by
   rw [<-show Rf.bad a2 er2=res from HR.out];exact ⟨rfl,(dm Aw.out aF hfin).mono fun b hb=>hb.elim .inl fun h=>h.elim (fun h=>.inr (.inl h)) fun h=>.inr (.inr (.inr h))⟩)
  clear aF hfin;exact Vk
 | ok d=>
  obtain ⟨rfl,vl4,fm4,m4,hG4,hN4,aF,hb4,hrd4⟩:=h4;have HG4:=Hi hG4;have HN4:=Hi (hN4.trans (Nat.le_refl _) (Nw.refl _ _));have AO:=Hi (dm Aw.out aF hfin);have HB4:=Hi (show m4+c.rd * 134217728<=m+(1+au l)+d.rd * 134217728/\c.rd<=d.rd from ⟨V0,hrd4⟩);have HS34:=Hi aF.size;have HFR:=Hi hG4.fre;obtain ⟨b0,b1,b2,b3,b4,b5,b6⟩:=Aa.c7 hG4.blk;have hg4:=hG4.blk.lt;obtain ⟨it,hit⟩:∃ it,w4.heap.size=it:=⟨_,rfl⟩;have HIT:=Hi hit;clear hG4 hN4 aF hb4 hrd4 hfin;go_wp2_with (at_range;refine q31 _ rfl _ _ rfl uFa rfl HFR.out ?_;intro w5 cnt hR5 hgr5 hs5;have HR5:=Hi hR5;have HGR5:=Hi hgr5;have HS5:=Hi hs5;clear hR5 hgr5 hs5 b0 b1 b2 b3 b4 b5 b6 hg4;rw [HIT.out])
  go_frame
  have HB5:=Hi (show Aa w5 g 118 (gxA ⟨g,kb,fb,r2⟩ vl4 (d.rd:Int) d.nd 0) from HG4.out.blk.upd ((Upd.refl (fun _=>False) w4).grown HGR5.out fun k hk _=>by cases hk) id);have AR:=Hi (show Upd (fun _=>False) w4 w5 from (Upd.refl (fun _=>False) w4).grown HGR5.out fun k hk _=>by cases hk);have HK5:=Hi (show MpW w5 kb m4 d.kn from HG4.out.kno.upd AR.out id);have hR5':=HR5.out;rw [HIT.out] at hR5';have HRR:=Hi hR5';clear hR5' HR5
  go_loopw [9] (fun _ wr=>∃ (kni:Kw) (lefti:Bs->Bool) (cnti:Nat),Hid (MpR codW wr r2 it m4 fm4 lefti cnti)/\Hid (MpW wr kb m4 kni)/\Hid (Aa wr g 118 (gxA ⟨g,kb,fb,r2⟩ vl4 (d.rd:Int) d.nd 0))/\Hid (Upd (fun b=>b=kb\/b=it) w5 wr)/\Hid (∀ t:Bs,t.length<=maxLen->kni t=if (fm4 t).isSome=true/\lefti t=false then none else d.kn t)) (fun _ wr=>wr.rangeLeft r2 it)
  case atStart=>
   exact ⟨d.kn,fun t=>(fm4 t).isSome,cnt,HRR,HK5,HB5,Hi (Upd.refl _ _),Hi fun t ht=>by
    rw [if_neg];rintro ⟨h1,h2⟩;have h2':(fm4 t).isSome=false:=h2;rw [h1] at h2';cases h2'⟩
  case round=>
   obtain ⟨kni,lefti,cnti,HMR,HMK,HBr,HUr,HQ⟩:=hrel;go_wp2_with (at_next;refine q3F _ rfl _ rfl rfl HMR.out ?_ ?_)
   ·intro hc0 hl0;have hgl:=HBr.out.lt;have HL0:=Hi hl0;have Ay:=HBr.out;obtain ⟨b0,b1,b2,b3,b4,b5,b6⟩:=Aa.c7 Ay;have f3:=Ay.frozen 3;have hX:=HF.out;have hd4:=HG4.out.dis;have hn4:=HN4.out;have hut:Upd (fun b=>b=g\/b=kb\/vl.ownBlock=some b) w wr:=dm (dm AO.out AR.out fun _ h=>h.elim) HUr.out fun b hb hlt=>by
     rcases hb with h | h
     ·exact .inr (.inl h)
     ·have:=HIT.out;have:=AO.out.size;omega
    have hd:=HG.out.dis;have hitk:it≠kb/\it≠g/\it≠fb/\∀ b,vl4.ownBlock=some b->b≠it:=by
     have h1:=HIT.out;have h2:=HG4.out.lt;obtain ⟨mf,hf⟩:=HG4.out.fun_;have h3:=hf.lt;have h4:=h2 g (.inl rfl);have h5:=h2 kb (.inr (.inl rfl));exact ⟨V0,V0,by have h3':fb < w4.heap.size:=h3;omega,fun b hb=>by have:=h2 b (.inr (.inr (.inr hb)));omega⟩
    have Ac:=Hi (show SP w0 w ⟨g,kb,fb,rb⟩ vl fu k0 m c.rd (1+au l) res (.returned (.tuple #[])) (wr.setCell ⟨g,3,none⟩ (.map (some rb))) from by
     rw [<-show Rf.ok { d with kn:=cutB c.kn d.kn }=res from HR.out];have hus:Upd (fun b=>b=g) wr (wr.setCell ⟨g,3,none⟩ (.map (some rb))):=(Upd.refl (fun b=>b=g) wr).setCell (p:=⟨g,3,none⟩) (fun _=>rfl) _;have hut2:=hut.trans (hus.mono (Y:=fun b=>b=g\/b=kb\/vl.ownBlock=some b) fun b hb=>.inl hb);have hfrk:=HG4.out.frk;have hdom:Dm c.kn d.kn:=HG4.out.dom;have hcs:∀ t,(cutB c.kn d.kn t).isSome=(c.kn t).isSome:=fun t=>by
      unfold cutB;by_cases h:(c.kn t).isSome=true
      ·rw [if_pos h,hdom t h,h]
      ·rw [if_neg h];cases hq:(c.kn t).isSome with
       | true=>exact absurd hq h
       | false=>rfl
     have hvown:∀ b,vl4.ownBlock=some b->b≠g/\b≠kb/\b≠rb/\b≠fb:=fun b hb=>by
      have h1:=hd4.2.2.2.2.2.2 b hb;refine ⟨h1.1,h1.2.1,?_,h1.2.2.2⟩;rcases hn4 with h | ⟨n,h3,h4⟩
      ·exact (hd.2.2.2.2.2.2 b (h ▸ hb)).2.2.1
      ·rw [h4] at hb;cases hb;have:=Aw.out.size;have:=HR2.out;have hx:rb < r2:=hX.2.2.1;omega
     refine ⟨rfl,vl4,fm,max m4 m,⟨Ay.set 3 _,?_,?_,fun t=>?_,fun t ht=>?_,?_,?_,⟨hd.1,hd.2.1,hd.2.2.1,hd.2.2.2.1,hd.2.2.2.2.1,hd.2.2.2.2.2.1,hvown⟩,fun b hb=>?_,Nat.le_trans HG4.out.oub (Nat.le_max_left _ _),HG4.out.rdb,?_,HG.out.fok⟩,?_,?_,(by
      have h1:=HB4.out.1;have h2:=HB4.out.2;show max m4 m+c.rd * 134217728<=m+(1+au l)+d.rd * 134217728;omega),HB4.out.2⟩
     ·refine ((HMK.out.upd hus hd.1).mono (Nat.le_max_left _ _)).congr fun t ht=>?_
      rw [HQ.out t ht];have hl:=HL0.out t ht;have h1:=hfrk t;show (if (fm4 t).isSome=true/\lefti t=false then none else d.kn t)=(if (c.kn t).isSome=true then d.kn t else none);by_cases h:(c.kn t).isSome=true
      ·rw [if_pos h,if_neg];rintro ⟨h2,_⟩;rw [h2,h,Bool.not_true,Bool.and_false] at h1;cases h1
      ·rw [if_neg h];have h':(c.kn t).isSome=false:=by cases hq:(c.kn t).isSome with | true=>exact absurd hq h | false=>rfl
       rw [h',Bool.not_false,Bool.and_true] at h1;by_cases h3:(fm4 t).isSome=true
       ·rw [if_pos ⟨h3,hl⟩]
       ·rw [if_neg (fun h=>h3 h.1)];cases hk:d.kn t with
        | none=>rfl
        | some x=>rw [hk] at h1;exact absurd h1 h3
     ·have hrm:=HG.out.fre.upd hut2 (by
       rintro (h | h | h)
       ·exact hd.2.1 h
       ·exact hd.2.2.2.1 h
       ·exact (hd.2.2.2.2.2.2 _ h).2.2.1 rfl)
      exact hrm.mono (Nat.le_max_right _ _)
     ·show (fm t).isSome=((cutB c.kn d.kn t).isSome && !(k0 t).isSome);rw [hcs];exact HG.out.frk t
     ·show (cutB c.kn d.kn t).isSome=true;rw [hcs];exact HG.out.dom t ht
     ·obtain ⟨mf,hf⟩:=HG.out.fun_;exact ⟨mf,hf.upd hut2 (by
       rintro (h | h | h)
       ·exact hd.2.2.1 h
       ·exact hd.2.2.2.2.1 h
       ·exact (hd.2.2.2.2.2.2 _ h).2.2.2 rfl)⟩
     ·have h1:wr.ownsRow w0.heap.size 36 3 vl4 d.ou.length (d.ou.flatMap lbC):=Nm.ae (Nm.ae HG4.out.lab AR.out fun _ _ h=>h) HUr.out fun b hb h=>by
       rcases h with h | h
       ·exact (hd4.2.2.2.2.2.2 b hb).2.1 h
       ·exact hitk.2.2.2 b hb h
      exact Nm.ae h1 hus fun b hb h=>(hd4.2.2.2.2.2.2 b hb).1 h
     ·rcases hb with h | h | h | h
      ·exact HG.out.low b (.inl h)
      ·exact HG.out.low b (.inr (.inl h))
      ·exact HG.out.low b (.inr (.inr (.inl h)))
      ·exact HG4.out.low b (.inr (.inr (.inr h)))
     ·exact HG.out.bel.trans (hut2.below (B:=w0.heap.size) HG.out.bel.size fun b hb=>by
       rcases hb with h | h | h
       ·exact HG.out.low b (.inl h)
       ·exact HG.out.low b (.inr (.inl h))
       ·exact HG.out.low b (.inr (.inr (.inr h))))
     ·rcases hn4 with h | ⟨n,h3,h4⟩
      ·exact .inl h
      ·exact .inr ⟨n,Nat.le_trans Aw.out.size h3,h4⟩
     ·exact hut2.mono fun b hb=>hb.elim .inl fun h=>h.elim (fun h=>.inr (.inl h)) fun h=>.inr (.inr (.inr h)))
    clear hc0 hl0 hX hd4 hn4 hut hd hitk Ay;exact Vd
   ·intro s7 m7 w7 cnt7 hs7 hl7 hk7 hr7 hlt7 hg7 hz7 hen7;have hit2:it≠kb/\it≠g/\r2≠kb/\r2≠it:=by
     have h1:=HIT.out;have h2:=HG4.out.lt;have h4:=h2 g (.inl rfl);have h5:=h2 kb (.inr (.inl rfl));have h6:r2 < w4.heap.size:=h2 r2 (.inr (.inr (.inl rfl)));have h7:kb < r2:=HF.out.2.1;exact ⟨V0,V0,V0,V0⟩
    have hu7:Upd (fun b=>b=it) wr w7:=(Upd.refl (fun b=>b=it) wr).grown hg7 fun k hk _=>Vx
    have hB7:=HBr.out.upd hu7 (fun h=>hit2.2.1 h.symm);have hM7:=HMK.out.upd hu7 (fun h=>hit2.1 h.symm);obtain ⟨w9,hrun,hM9,ht9⟩:=hM7.del hs7 uFa 0;have hR9:=hr7.kept ht9.grown (by intro h;cases h;exact hit2.2.2.1 rfl) (by intro h;cases h;exact hit2.1 rfl);have hu9:Upd (fun b=>b=kb) w7 w9:=q0f ht9 rfl;have H1:=Hi hR9;have H2:=Hi hM9;have H3:=Hi (hB7.upd hu9 (fun h=>HG4.out.dis.1 h.symm));have H4:=Hi ((HUr.out.trans (hu7.mono fun b hb=>.inr hb)).trans (hu9.mono fun b hb=>.inl hb));have H5:=Hi (show ∀ t:Bs,t.length<=maxLen->(if t=s7 then none else kni t)=if (fm4 t).isSome=true/\(lefti t && !(t==s7))=false then none else d.kn t from fun t ht=>by
     by_cases e:t=s7
     ·subst e;rw [if_pos rfl,if_pos ⟨by rw [hk7];rfl,V3⟩]
     ·rw [if_neg e,HQ.out t ht];have e':(t==s7)=false:=V0D;rw [e',Bool.not_false,Bool.and_true])
    obtain ⟨b0,b1,b2,b3,b4,b5,b6⟩:=Aa.c7 hB7;have hgl:=hB7.lt;have HLT:=Hi (show w9.rangeLeft r2 it < wr.rangeLeft r2 it from by rw [hR9.left_eq,HMR.out.left_eq];exact hlt7);clear hl7 hk7 hr7 hlt7 hg7 hz7 hu7 hB7 hM7 hM9 ht9 hR9 hu9 hit2;go_wp2_with fail
    go_roundw
    case rel=>exact ⟨_,_,_,H1,H2,H3,H4,H5⟩
    case measure=>exact HLT.out
end Fl
end Go.Proofs.YtcgibpdjfgjldaaGreatDoor
