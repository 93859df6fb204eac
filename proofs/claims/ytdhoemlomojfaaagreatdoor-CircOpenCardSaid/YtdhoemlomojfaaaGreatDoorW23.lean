/- DERIVED. FlRo. By an AI agent. -/
import Derived.Test.YtdhoemlomojfaaaGreatDoorW01
import Derived.Test.YtdhoemlomojfaaaGreatDoorW22
set_option maxRecDepth 100000
set_option maxHeartbeats 8000000
set_option linter.unusedVariables false
set_option linter.unusedSimpArgs false
namespace Go.Proofs.YtdhoemlomojfaaaGreatDoor.Fl
open Go Go.ChangeShapes Go.WideShapes Go.ChangeAt Go.RowKit Lx Args Pa Sh Go.Proofs.YtdhoemlomojfaaaGreatDoor.Nm
section
variable {α : Type} {c : Cod α} {w w' : World} {b r n : Nat} {kn kn' : Bs → Option α} {left : Bs → Bool} {cnt : Nat}
theorem MpR.kept{row:Option Nat}(h:MpR c w b r n kn left cnt)(hg:w.grownBy w' row)(hb:some b≠row)(hr:some r≠row):MpR c w' b r n kn left cnt:=by
 obtain ⟨D,l,h1,h2,h3⟩:=h;exact ⟨D,l,h1.kept hg hb hr,h2,h3⟩
theorem MpR.left_eq(h:MpR c w b r n kn left cnt):w.rangeLeft b r=cnt:=by
 obtain ⟨D,l,h1,_⟩:=h;exact h1.left_eq
theorem MpG.congr(h:MpG c w b n kn)(e:∀ s:Bs,s.length≤maxLen→kn s=kn' s):MpG c w b n kn':=by
 obtain ⟨D,h1,h2⟩:=h;exact ⟨D,h1,fun s hs=>by rw [←e s hs];exact h2 s hs⟩
end
def rndR(fu:Fu)(s:Bs)(i:BitVec 32)(l:List Tz)(c:Sf):Rf Sf:=bndF (xTs fu 0 l { c with kn:=c.kn.put s ⟨false,some i⟩ }) fun d=>.ok { d with kn:=cutB c.kn d.kn }
theorem round_{w0:World}{fu:Fu}(l:List Tz)(H:∀ y∈l,StAt w0 fu y)(w:World)(G:Gx)(vl:Value)(k0:Kw)(c:Sf)(fm:Kw)(m:Nat)(s:Bs)(hs:s.length≤maxLen)(i:BitVec 32)(A:Option Addr)(cA:Nat)(hG:CG w0 w G vl fu k0 c fm m)(hk:nbzs l≤134217728)(hm:m+1+nbzs l≤(c.rd+1) * 134217728)(hP:Pts w0 A cA l)(hok:okSs fu 0 l) :
  Calls Tryz.prog 94 #[.pointer (some ⟨G.g,0,none⟩),.string ⟨s.toArray⟩,uV i,.slice A l.length cA] w (SP w0 w G vl fu k0 m c.rd (1+nbzs l) (rndR fu s i l c)):=by
 obtain ⟨g,kb,fb,rb⟩:=G;obtain ⟨wm,hwm⟩:∃ wm,w.alloc (.map #[] 0)=wm:=⟨_,rfl⟩;have hbm:Below w.heap.size w wm:=by rw [←hwm];exact (Below.refl _ _).alloc (Nat.le_refl _) _
 have hmm:MpW wm w.heap.size 0 (fun _=>none):=by rw [←hwm];exact MpG.made codW w
 have hsm:wm.heap.size=w.heap.size+1:=by rw [←hwm];simp
 obtain ⟨r2,hr2⟩:∃ r2,w.heap.size=r2:=⟨_,rfl⟩;have hmk:(Instr.makeMap 95 none).run Tryz.prog w = .ok (.map (some r2)) wm:=by rw [←hwm,←hr2];exact run_makeMap _ _
 rw [hr2] at hmm;have hd:=hG.dis;have hlt:=hG.lt;have hgl:=hlt _ (.inl rfl);have hkl:=hlt _ (.inr (.inl rfl));have hrl:=hlt _ (.inr (.inr (.inl rfl)));have hfl:fb < r2:=by
  obtain ⟨mf,hf⟩:=hG.fun_;have h1:fb < w.heap.size:=hf.lt;omega
 have hgl':g < r2:=by rw [←hr2];exact hgl
 have hkl':kb < r2:=by rw [←hr2];exact hkl
 have hrl':rb < r2:=by rw [←hr2];exact hrl
 have hvl':∀ b,vl.ownBlock=some b→b < r2:=fun b hb=>by have:=hlt b (.inr (.inr (.inr hb)));omega
 have hGm:=hG.below hbm;obtain ⟨w2,hw2⟩:∃ w2,wm.setCell ⟨g,3,none⟩ (.map (some r2))=w2:=⟨_,rfl⟩;have hu2:Upd (fun b=>b=g) wm w2:=by rw [←hw2];exact (Upd.refl (fun b=>b=g) wm).setCell (p:=⟨g,3,none⟩) (fun _=>rfl) _
 have hG2:CG w0 w2 ⟨g,kb,fb,r2⟩ vl fu c.kn c (fun _=>none) m:=by
  refine ⟨by rw [←hw2];exact hGm.blk.set 3 _,hGm.kno.upd hu2 hd.1,(hmm.mono (Nat.zero_le m)).upd hu2 (by show ¬ r2=g;omega),fun t=>?_,fun t ht=>ht,?_,Nm.own_updV hGm.lab hu2 fun b hb e=>(hd.2.2.2.2.2.2 b hb).1 e,⟨hd.1,by show r2≠g;omega,hd.2.2.1,by show r2≠kb;omega,hd.2.2.2.2.1,by show fb≠r2;omega,fun b hb=>⟨(hd.2.2.2.2.2.2 b hb).1,(hd.2.2.2.2.2.2 b hb).2.1,by have:=hvl' b hb;show b≠r2;omega,(hd.2.2.2.2.2.2 b hb).2.2.2⟩⟩,?_,hG.oub,hG.rdb,hGm.bel.trans (hu2.below (B:=w0.heap.size) hGm.bel.size fun b hb=>hb ▸ hG.low _ (.inl rfl)),hG.fok⟩
  ·show false=((c.kn t).isSome && !(c.kn t).isSome);cases (c.kn t).isSome <;> rfl
  ·obtain ⟨mf,hf⟩:=hGm.fun_;exact ⟨mf,hf.upd hu2 hd.2.2.1⟩
  ·intro b hb;rcases hb with h | h | h | h
   ·exact hG.low b (.inl h)
   ·exact hG.low b (.inr (.inl h))
   ·have h':b=r2:=h;have:=hG.bel.size;omega
   ·exact hG.low b (.inr (.inr (.inr h)))
 obtain ⟨c0,c1,c2,c3,c4,c5,c6⟩:=Blk.c7 hGm.blk;have f3:=hGm.blk.frozen 3;have hgm:=hGm.blk.lt;obtain ⟨b0,b1,b2,b3,b4,b5,b6⟩:=Blk.c7 hG.blk;have hrd:=hG.rdb;have hml:m < maxLen:=by unfold maxLen;omega
 have HST:=Hi (set_ w2 ⟨g,kb,fb,r2⟩ vl fu c.kn c (fun _=>none) m hG2 hml s hs ⟨false,some i⟩);have HU2:=Hi (show Upd (fun b=>b=g) w w2 from (Upd.of_below hbm _).trans hu2);have HWM:=Hi hwm;have HW2:=Hi hw2;have HG:=Hi hG;have HM:=Hi hm;have HK0:=Hi hk;have HP:=Hi hP;have HOK:=Hi hok;have HH:=Hi H;have HR2:=Hi hr2;have HF:=Hi (And.intro hgl' (And.intro hkl' (And.intro hrl' (And.intro hfl hvl'))));obtain ⟨res,hres⟩:∃ res,rndR fu s i l c=res:=⟨_,rfl⟩;rw [hres];have HRES:=Hi hres;clear hbm hmm hsm hd hlt hkl hrl hfl hgl' hkl' hrl' hvl' hGm hu2 hG2 hG hm hk hP hok H hres hwm hw2 hrd hml hs hr2;go_enter Tryz.func94,Tryz.ntmps94;go_upto_region 2 with fail
 rw [HW2.out];clear c0 c1 c2 c3 c4 c5 c6 f3 hgm b0 b1 b2 b3 b4 b5 b6 hgl hmk;go_wp2_with fail
 refine (show Calls Tryz.prog 75 #[.pointer (some ⟨g,0,none⟩),.string ⟨s.toArray⟩,.agg #[.bool false,.bool true,.int .u32 (i.toNat:Int)]] w2 _ from HST.out).mono ?_;rintro e w3 ⟨rfl,fm3,hG3,hu3⟩;have HS3:=Hi (statements_ l HH.out w3 ⟨g,kb,fb,r2⟩ vl c.kn { c with kn:=c.kn.put s ⟨false,some i⟩ } fm3 (m+1) A cA hG3 HK0.out (by have:=HM.out;show m+1+nbzs l≤_;exact this) HP.out HOK.out);have HU3:=Hi (show Upd (fun b=>b=g∨b=kb∨vl.ownBlock=some b) w w3 from upd_then (HU2.out.mono fun b hb=>.inl hb) hu3 fun b hb hlt=>by
  rcases hb with h | h
  ·exact .inr (.inl h)
  ·have h':b=r2:=h;have:=HR2.out;omega)
 have hr:bndF (xTs fu 0 l { c with kn:=c.kn.put s ⟨false,some i⟩ }) (fun d=>.ok { d with kn:=cutB c.kn d.kn })=res:=HRES.out;obtain ⟨r1,hr1⟩:∃ r1,xTs fu 0 l { c with kn:=c.kn.put s ⟨false,some i⟩ }=r1:=⟨_,rfl⟩;rw [hr1] at hr HS3;have HR:=Hi hr;clear hG3 hu3 hr hr1 HRES HST;go_wp2_with fail
 refine (show Calls Tryz.prog 50 #[.pointer (some ⟨g,0,none⟩),.slice A l.length cA] w3 _ from HS3.out).mono ?_;intro e w4 h4;have hfin:∀ b,ow ⟨g,kb,fb,r2⟩ vl b→b < w.heap.size→b=g∨b=kb∨vl.ownBlock=some b:=fun b hb hlt=>by
  rcases hb with h | h | h | h
  ·exact .inl h
  ·exact .inr (.inl h)
  ·have h':b=r2:=h;have:=HR2.out;omega
  ·exact .inr (.inr h)
 cases r1 with
 | bad a2 er2=>
  obtain ⟨rfl,hu4⟩:=h4;have HEND:=Hi (show SP w0 w ⟨g,kb,fb,rb⟩ vl fu k0 m c.rd (1+nbzs l) res (panF a2 er2) w4 from by
   rw [←show Rf.bad a2 er2=res from HR.out];exact ⟨rfl,(upd_then HU3.out hu4 hfin).mono fun b hb=>hb.elim .inl fun h=>h.elim (fun h=>.inr (.inl h)) fun h=>.inr (.inr (.inr h))⟩)
  clear hu4 hfin;go_wp2_with fail
  exact ⟨rfl,HEND.out⟩
 | ok d=>
  obtain ⟨rfl,vl4,fm4,m4,hG4,hN4,hu4,hb4,hrd4⟩:=h4;have HG4:=Hi hG4;have HN4:=Hi (hN4.trans (Nat.le_refl _) (Nw.refl _ _));have HU4:=Hi (upd_then HU3.out hu4 hfin);have HB4:=Hi (show m4+c.rd * 134217728≤m+(1+nbzs l)+d.rd * 134217728∧c.rd≤d.rd from ⟨by omega,hrd4⟩);have HS34:=Hi hu4.size;have HFR:=Hi hG4.fre;obtain ⟨b0,b1,b2,b3,b4,b5,b6⟩:=Blk.c7 hG4.blk;have hg4:=hG4.blk.lt;obtain ⟨it,hit⟩:∃ it,w4.heap.size=it:=⟨_,rfl⟩;have HIT:=Hi hit;clear hG4 hN4 hu4 hb4 hrd4 hfin;go_wp2_with (at_range;refine wpList_range_G _ rfl _ _ rfl uFa rfl HFR.out ?_;intro w5 cnt hR5 hgr5 hs5;have HR5:=Hi hR5;have HGR5:=Hi hgr5;have HS5:=Hi hs5;clear hR5 hgr5 hs5 b0 b1 b2 b3 b4 b5 b6 hg4;rw [HIT.out])
  go_frame
  have HB5:=Hi (show Blk w5 g 97 (gxA ⟨g,kb,fb,r2⟩ vl4 (d.rd:Int) d.nd 0) from HG4.out.blk.upd ((Upd.refl (fun _=>False) w4).grown HGR5.out fun k hk _=>by cases hk) id);have HU5:=Hi (show Upd (fun _=>False) w4 w5 from (Upd.refl (fun _=>False) w4).grown HGR5.out fun k hk _=>by cases hk);have HK5:=Hi (show MpW w5 kb m4 d.kn from HG4.out.kno.upd HU5.out id);have hR5':=HR5.out;rw [HIT.out] at hR5';have HRR:=Hi hR5';clear hR5' HR5
  go_loopw [9] (fun _ wr=>∃ (kni:Kw) (lefti:Bs→Bool) (cnti:Nat),Hid (MpR codW wr r2 it m4 fm4 lefti cnti)∧Hid (MpW wr kb m4 kni)∧Hid (Blk wr g 97 (gxA ⟨g,kb,fb,r2⟩ vl4 (d.rd:Int) d.nd 0))∧Hid (Upd (fun b=>b=kb∨b=it) w5 wr)∧Hid (∀ t:Bs,t.length≤maxLen→kni t=if (fm4 t).isSome=true∧lefti t=false then none else d.kn t)) (fun _ wr=>wr.rangeLeft r2 it)
  case atStart=>
   exact ⟨d.kn,fun t=>(fm4 t).isSome,cnt,HRR,HK5,HB5,Hi (Upd.refl _ _),Hi fun t ht=>by
    rw [if_neg];rintro ⟨h1,h2⟩;have h2':(fm4 t).isSome=false:=h2;rw [h1] at h2';cases h2'⟩
  case round=>
   obtain ⟨kni,lefti,cnti,HMR,HMK,HBr,HUr,HQ⟩:=hrel;go_wp2_with (at_next;refine wpList_next_G _ rfl _ rfl rfl HMR.out ?_ ?_)
   ·intro hc0 hl0;have hgl:=HBr.out.lt;have HL0:=Hi hl0;have HBB:=HBr.out;obtain ⟨b0,b1,b2,b3,b4,b5,b6⟩:=Blk.c7 HBB;have f3:=HBB.frozen 3;have hX:=HF.out;have hd4:=HG4.out.dis;have hn4:=HN4.out;have hut:Upd (fun b=>b=g∨b=kb∨vl.ownBlock=some b) w wr:=upd_then (upd_then HU4.out HU5.out fun _ h=>h.elim) HUr.out fun b hb hlt=>by
     rcases hb with h | h
     ·exact .inr (.inl h)
     ·have:=HIT.out;have:=HU4.out.size;omega
    have hd:=HG.out.dis;have hitk:it≠kb∧it≠g∧it≠fb∧∀ b,vl4.ownBlock=some b→b≠it:=by
     have h1:=HIT.out;have h2:=HG4.out.lt;obtain ⟨mf,hf⟩:=HG4.out.fun_;have h3:=hf.lt;have h4:=h2 g (.inl rfl);have h5:=h2 kb (.inr (.inl rfl));exact ⟨by omega,by omega,by have h3':fb < w4.heap.size:=h3;omega,fun b hb=>by have:=h2 b (.inr (.inr (.inr hb)));omega⟩
    have HEND:=Hi (show SP w0 w ⟨g,kb,fb,rb⟩ vl fu k0 m c.rd (1+nbzs l) res (.returned (.tuple #[])) (wr.setCell ⟨g,3,none⟩ (.map (some rb))) from by
     rw [←show Rf.ok { d with kn:=cutB c.kn d.kn }=res from HR.out];have hus:Upd (fun b=>b=g) wr (wr.setCell ⟨g,3,none⟩ (.map (some rb))):=(Upd.refl (fun b=>b=g) wr).setCell (p:=⟨g,3,none⟩) (fun _=>rfl) _;have hut2:=hut.trans (hus.mono (Y:=fun b=>b=g∨b=kb∨vl.ownBlock=some b) fun b hb=>.inl hb);have hfrk:=HG4.out.frk;have hdom:Dm c.kn d.kn:=HG4.out.dom;have hcs:∀ t,(cutB c.kn d.kn t).isSome=(c.kn t).isSome:=fun t=>by
      unfold cutB;by_cases h:(c.kn t).isSome=true
      ·rw [if_pos h,hdom t h,h]
      ·rw [if_neg h];cases hq:(c.kn t).isSome with
       | true=>exact absurd hq h
       | false=>rfl
     have hvown:∀ b,vl4.ownBlock=some b→b≠g∧b≠kb∧b≠rb∧b≠fb:=fun b hb=>by
      have h1:=hd4.2.2.2.2.2.2 b hb;refine ⟨h1.1,h1.2.1,?_,h1.2.2.2⟩;rcases hn4 with h | ⟨n,h3,h4⟩
      ·exact (hd.2.2.2.2.2.2 b (h ▸ hb)).2.2.1
      ·rw [h4] at hb;cases hb;have:=HU3.out.size;have:=HR2.out;have hx:rb < r2:=hX.2.2.1;omega
     refine ⟨rfl,vl4,fm,max m4 m,⟨HBB.set 3 _,?_,?_,fun t=>?_,fun t ht=>?_,?_,?_,⟨hd.1,hd.2.1,hd.2.2.1,hd.2.2.2.1,hd.2.2.2.2.1,hd.2.2.2.2.2.1,hvown⟩,fun b hb=>?_,Nat.le_trans HG4.out.oub (Nat.le_max_left _ _),HG4.out.rdb,?_,HG.out.fok⟩,?_,?_,(by
      have h1:=HB4.out.1;have h2:=HB4.out.2;show max m4 m+c.rd * 134217728≤m+(1+nbzs l)+d.rd * 134217728;omega),HB4.out.2⟩
     ·refine ((HMK.out.upd hus hd.1).mono (Nat.le_max_left _ _)).congr fun t ht=>?_
      rw [HQ.out t ht];have hl:=HL0.out t ht;have h1:=hfrk t;show (if (fm4 t).isSome=true∧lefti t=false then none else d.kn t)=(if (c.kn t).isSome=true then d.kn t else none);by_cases h:(c.kn t).isSome=true
      ·rw [if_pos h,if_neg];rintro ⟨h2,_⟩;rw [h2,h,Bool.not_true,Bool.and_false] at h1;cases h1
      ·rw [if_neg h];have h':(c.kn t).isSome=false:=by cases hq:(c.kn t).isSome with | true=>exact absurd hq h | false=>rfl
       rw [h',Bool.not_false,Bool.and_true] at h1;by_cases h3:(fm4 t).isSome=true
       ·rw [if_pos ⟨h3,hl⟩]
       ·rw [if_neg (fun h=>h3 h.1)];cases hk:d.kn t with
        | none=>rfl
        | some x=>rw [hk] at h1;exact absurd h1 h3
     ·have hrm:=HG.out.fre.upd hut2 (by
       rintro (h | h | h)
       ·exact hd.2.1 h
       ·exact hd.2.2.2.1 h
       ·exact (hd.2.2.2.2.2.2 _ h).2.2.1 rfl)
      exact hrm.mono (Nat.le_max_right _ _)
     ·show (fm t).isSome=((cutB c.kn d.kn t).isSome && !(k0 t).isSome);rw [hcs];exact HG.out.frk t
     ·show (cutB c.kn d.kn t).isSome=true;rw [hcs];exact HG.out.dom t ht
     ·obtain ⟨mf,hf⟩:=HG.out.fun_;exact ⟨mf,hf.upd hut2 (by
       rintro (h | h | h)
       ·exact hd.2.2.1 h
       ·exact hd.2.2.2.2.1 h
       ·exact (hd.2.2.2.2.2.2 _ h).2.2.2 rfl)⟩
     ·have h1:wr.ownsRow w0.heap.size 158 3 vl4 d.ou.length (d.ou.flatMap lbC):=Nm.own_updV (Nm.own_updV HG4.out.lab HU5.out fun _ _ h=>h) HUr.out fun b hb h=>by
       rcases h with h | h
       ·exact (hd4.2.2.2.2.2.2 b hb).2.1 h
       ·exact hitk.2.2.2 b hb h
      exact Nm.own_updV h1 hus fun b hb h=>(hd4.2.2.2.2.2.2 b hb).1 h
     ·rcases hb with h | h | h | h
      ·exact HG.out.low b (.inl h)
      ·exact HG.out.low b (.inr (.inl h))
      ·exact HG.out.low b (.inr (.inr (.inl h)))
      ·exact HG4.out.low b (.inr (.inr (.inr h)))
     ·exact HG.out.bel.trans (hut2.below (B:=w0.heap.size) HG.out.bel.size fun b hb=>by
       rcases hb with h | h | h
       ·exact HG.out.low b (.inl h)
       ·exact HG.out.low b (.inr (.inl h))
       ·exact HG.out.low b (.inr (.inr (.inr h))))
     ·rcases hn4 with h | ⟨n,h3,h4⟩
      ·exact .inl h
      ·exact .inr ⟨n,Nat.le_trans HU3.out.size h3,h4⟩
     ·exact hut2.mono fun b hb=>hb.elim .inl fun h=>h.elim (fun h=>.inr (.inl h)) fun h=>.inr (.inr (.inr h)))
    clear hc0 hl0 hX hd4 hn4 hut hd hitk HBB;go_wp2_with fail
    first | go_end0 | skip
    all_goals first | exact HEND.out | exact bodyPost_ret (results_none rfl _ _ _) rfl HEND.out
   ·intro s7 m7 w7 cnt7 hs7 hl7 hk7 hr7 hlt7 hg7 hz7 hen7;have hit2:it≠kb∧it≠g∧r2≠kb∧r2≠it:=by
     have h1:=HIT.out;have h2:=HG4.out.lt;have h4:=h2 g (.inl rfl);have h5:=h2 kb (.inr (.inl rfl));have h6:r2 < w4.heap.size:=h2 r2 (.inr (.inr (.inl rfl)));have h7:kb < r2:=HF.out.2.1;exact ⟨by omega,by omega,by omega,by omega⟩
    have hu7:Upd (fun b=>b=it) wr w7:=(Upd.refl (fun b=>b=it) wr).grown hg7 fun k hk _=>by cases hk;rfl
    have hB7:=HBr.out.upd hu7 (fun h=>hit2.2.1 h.symm);have hM7:=HMK.out.upd hu7 (fun h=>hit2.1 h.symm);obtain ⟨w9,hrun,hM9,ht9⟩:=hM7.del hs7 uFa 0;have hR9:=hr7.kept ht9.grown (by intro h;cases h;exact hit2.2.2.1 rfl) (by intro h;cases h;exact hit2.1 rfl);have hu9:Upd (fun b=>b=kb) w7 w9:=turned_upd ht9 rfl;have H1:=Hi hR9;have H2:=Hi hM9;have H3:=Hi (hB7.upd hu9 (fun h=>HG4.out.dis.1 h.symm));have H4:=Hi ((HUr.out.trans (hu7.mono fun b hb=>.inr hb)).trans (hu9.mono fun b hb=>.inl hb));have H5:=Hi (show ∀ t:Bs,t.length≤maxLen→(if t=s7 then none else kni t)=if (fm4 t).isSome=true∧(lefti t && !(t==s7))=false then none else d.kn t from fun t ht=>by
     by_cases e:t=s7
     ·subst e;rw [if_pos rfl,if_pos ⟨by rw [hk7];rfl,by simp⟩]
     ·rw [if_neg e,HQ.out t ht];have e':(t==s7)=false:=by simpa using e
      rw [e',Bool.not_false,Bool.and_true])
    obtain ⟨b0,b1,b2,b3,b4,b5,b6⟩:=Blk.c7 hB7;have hgl:=hB7.lt;have HLT:=Hi (show w9.rangeLeft r2 it < wr.rangeLeft r2 it from by rw [hR9.left_eq,HMR.out.left_eq];exact hlt7);clear hl7 hk7 hr7 hlt7 hg7 hz7 hu7 hB7 hM7 hM9 ht9 hR9 hu9 hit2;go_wp2_with fail
    go_roundw
    case rel=>exact ⟨_,_,_,H1,H2,H3,H4,H5⟩
    case measure=>exact HLT.out
end Go.Proofs.YtdhoemlomojfaaaGreatDoor.Fl
