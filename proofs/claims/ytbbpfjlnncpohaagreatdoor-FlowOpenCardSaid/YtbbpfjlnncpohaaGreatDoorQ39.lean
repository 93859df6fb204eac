/- DERIVED. FlSt, FlVa, FlOu. By an AI agent. -/
import Derived.Test.YtbbpfjlnncpohaaGreatDoorQ01
import Derived.Test.YtbbpfjlnncpohaaGreatDoorQ07
import Derived.Test.YtbbpfjlnncpohaaGreatDoorQ38
import Derived.Test.YtbbpfjlnncpohaaGreatDoorQ34
import Derived.Test.YtbbpfjlnncpohaaGreatDoorQ11
import Derived.Test.YtbbpfjlnncpohaaGreatDoorQ09
set_option maxRecDepth 100000
set_option maxHeartbeats 8000000
set_option linter.unusedVariables false
set_option linter.unusedSimpArgs false
namespace Go.Proofs.YtbbpfjlnncpohaaGreatDoor.Fl
open Go Go.ChangeShapes Go.WideShapes Go.ChangeAt Go.RowKit Lx Args Pa Sh Go.Proofs.YtbbpfjlnncpohaaGreatDoor.Nm
structure Gx where
 g:Nat
 kb:Nat
 fb:Nat
 rb:Nat
def ow(G:Gx)(vl:Value):Nat→Prop:=fun b=>b=G.g∨b=G.kb∨b=G.rb∨vl.ownBlock=some b
abbrev gxA(G:Gx)(vl:Value)(rd nd ca:Int):Array Value:=#[.map (some G.kb),.map (some G.fb),vl,.map (some G.rb),.int .i64 rd,.int .i64 nd,.int .i64 ca]
structure CG(w0 w:World)(G:Gx)(vl:Value)(fu:Fu)(k0:Kw)(c:Sf)(fm:Kw)(m:Nat):Prop where
 blk:Blk w G.g 87 (gxA G vl (c.rd:Int) c.nd 0)
 kno:MpW w G.kb m c.kn
 fre:MpW w G.rb m fm
 frk:∀ s,(fm s).isSome=((c.kn s).isSome && !(k0 s).isSome)
 dom:Dm k0 c.kn
 fun_:∃ mf,FuM w0 w G.fb mf fu
 lab:w.ownsRow w0.heap.size 36 3 vl c.ou.length (c.ou.flatMap lbC)
 dis:G.kb≠G.g∧G.rb≠G.g∧G.fb≠G.g∧G.rb≠G.kb∧G.fb≠G.kb∧G.fb≠G.rb∧(∀ b,vl.ownBlock=some b→b≠G.g∧b≠G.kb∧b≠G.rb∧b≠G.fb)
 low:∀ b,ow G vl b→w0.heap.size≤b
 oub:c.ou.length≤m
 rdb:c.rd≤2000
 bel:Below w0.heap.size w0 w
 fok:okF fu fu
section
variable {w0 w w' : World} {G : Gx} {vl : Value} {fu : Fu} {k0 : Kw} {c : Sf} {fm : Kw} {m : Nat}
theorem CG.lt(h:CG w0 w G vl fu k0 c fm m):∀ b,ow G vl b→b < w.heap.size:=fun b hb=>by
 rcases hb with rfl | rfl | rfl | hb
 ·exact h.blk.lt
 ·exact h.kno.lt
 ·exact h.fre.lt
 ·exact (Nm.own_atV h.lab b hb).2
theorem CG.cx(h:CG w0 w G vl fu k0 c fm m):Cx w0 G.g G.fb G.kb fu c.kn w:=⟨h.bel,h.low _ (.inl rfl),h.fun_,⟨m,h.kno⟩,h.dis.2.2.1,h.dis.1,h.fok⟩
theorem CG.below(h:CG w0 w G vl fu k0 c fm m)(hb:Below w.heap.size w w'):CG w0 w' G vl fu k0 c fm m:=
 ⟨h.blk.below hb h.blk.lt,h.kno.upd (Upd.of_below hb fun _=>False) id,h.fre.upd (Upd.of_below hb fun _=>False) id,h.frk,h.dom,by
  obtain ⟨mf,hf⟩:=h.fun_;exact ⟨mf,hf.upd (Upd.of_below hb fun _=>False) id⟩,Nm.own_updV h.lab (Upd.of_below hb fun _=>False) fun _ _ h=>h,h.dis,h.low,h.oub,h.rdb,h.bel.trans (hb.mono h.bel.size),h.fok⟩
theorem CG.box(h:CG w0 w G vl fu k0 c fm m)(hu:Upd (fun b=>b=G.g) w w'){rd:Nat}{nd:Int}(hB:Blk w' G.g 87 (gxA G vl (rd:Int) nd 0))(hr:rd≤2000):CG w0 w' G vl fu k0 { c with rd:=rd,nd:=nd } fm m:=by
 have hd:=h.dis;refine ⟨hB,h.kno.upd hu hd.1,h.fre.upd hu hd.2.1,h.frk,h.dom,?_,Nm.own_updV h.lab hu fun b hb e=>(hd.2.2.2.2.2.2 b hb).1 e,hd,h.low,h.oub,hr,h.bel.trans (hu.below (B:=w0.heap.size) h.bel.size fun b hb=>hb ▸ h.low _ (.inl rfl)),h.fok⟩;obtain ⟨mf,hf⟩:=h.fun_;exact ⟨mf,hf.upd hu hd.2.2.1⟩
theorem CG.more(h:CG w0 w G vl fu k0 c fm m){m':Nat}(hm:m≤m'):CG w0 w G vl fu k0 c fm m':=⟨h.blk,h.kno.mono hm,h.fre.mono hm,h.frk,h.dom,h.fun_,h.lab,h.dis,h.low,Nat.le_trans h.oub hm,h.rdb,h.bel,h.fok⟩
end
def SetP(w0 w:World)(G:Gx)(vl:Value)(fu:Fu)(k0:Kw)(c:Sf)(m:Nat)(s:Bs)(v:Wk)(e:Ending)(w':World):Prop:=
 e = .returned (.tuple #[])∧∃ fm',CG w0 w' G vl fu k0 { c with kn:=c.kn.put s v } fm' (m+1)∧Upd (fun b=>b=G.kb∨b=G.rb) w w'
theorem set_{w0:World}(w:World)(G:Gx)(vl:Value)(fu:Fu)(k0:Kw)(c:Sf)(fm:Kw)(m:Nat)(hG:CG w0 w G vl fu k0 c fm m)(hm:m < maxLen)(s:Bs)(hs:s.length≤maxLen)(v:Wk) :
  Calls Tryz.prog 53 #[.pointer (some ⟨G.g,0,none⟩),.string ⟨s.toArray⟩,wkV v] w (SetP w0 w G vl fu k0 c m s v):=by
 obtain ⟨g,kb,fb,rb⟩:=G;obtain ⟨v1,v2,v3⟩:∃ q1 q2 q3,wkV v = .agg #[.bool q1,.bool q2,.int .u32 q3]:=⟨_,_,_,rfl⟩;obtain ⟨v3,hv⟩:=v3;rw [hv];obtain ⟨wn,hwn⟩:∃ wn,w.alloc (.cells #[.bool v1,.bool v2,.int .u32 v3] 104)=wn:=⟨_,rfl⟩;have hbn:Below w.heap.size w wn:=by rw [←hwn];exact (Below.refl _ _).alloc (Nat.le_refl _) _
 have hXn:Blk wn w.heap.size 104 #[.bool v1,.bool v2,.int .u32 v3]:=by rw [←hwn];exact Blk.new _ _ _
 have hGn:=hG.below hbn;have hlk:=mpw_look hGn.kno hs;obtain ⟨q1,q2,q3,hq⟩:∃ q1 q2 q3,wkV (wkAt c.kn s) = .agg #[.bool q1,.bool q2,.int .u32 q3]:=⟨_,_,_,rfl⟩;rw [hq] at hlk;obtain ⟨w2,hw2⟩:∃ w2,wn.alloc (.cells #[.bool q1,.bool q2,.int .u32 q3] 104)=w2:=⟨_,rfl⟩;have hb2:Below wn.heap.size wn w2:=by rw [←hw2];exact (Below.refl _ _).alloc (Nat.le_refl _) _
 have hG2:=hGn.below hb2;have hX2:=hXn.below hb2 hXn.lt;obtain ⟨c0,c1,c2,c3,c4,c5,c6⟩:=Blk.c7 hGn.blk;have hgl:=hGn.blk.lt;have HW:=Hi hwn;have HW2:=Hi hw2;have HG2:=Hi hG2;have HX2:=Hi hX2;have HV:=Hi hv;have HB2:=Hi (hbn.trans (hb2.mono hbn.size));have HGS:=Hi (show ∀ b,ow ⟨g,kb,fb,rb⟩ vl b→b < w.heap.size from hG.lt);have HM:=Hi hm;have HS:=Hi hs;obtain ⟨th,hth⟩:∃ th,(c.kn s).isSome=th:=⟨_,rfl⟩;rw [hth] at hlk;have HTH:=Hi hth;clear hwn hbn hXn hGn hw2 hb2 hG2 hX2 hG hv hq hth hm hs;go_enter Tryz.func53,Tryz.ntmps53;go_upto_region 1 with fail
 rw [HW.out];go_upto_region 2 with fail
 rw [HW2.out];clear c0 c1 c2 c3 c4 c5 c6 hgl hlk;cases th with
 | false=>
  have hdr:Below w2.heap.size w2 w2.drew:=Below.drew (Below.refl _ _);obtain ⟨wd,hwd⟩:∃ u,w2.drew=u:=⟨_,rfl⟩;rw [hwd] at hdr;have HGd:=Hi (HG2.out.below hdr);have HXd:=Hi (HX2.out.below hdr HX2.out.lt);have HBd:=Hi (HB2.out.trans (hdr.mono HB2.out.size));obtain ⟨w5,hrun,hM5,ht5⟩:=mpw_put HGd.out.fre HS.out HM.out v;rw [HV.out] at hrun;have hz5:Upd (fun b=>b=rb) wd w5:=turned_upd ht5 rfl;have HNX:=Hi (show ¬ w.heap.size=rb from by have:=HGS.out rb (.inr (.inr (.inl rfl)));omega);have HNB:=Hi (show ¬ g=rb from fun h=>HGd.out.dis.2.1 h.symm);have hd:=HGd.out.dis;have hlow:=HGd.out.low;have HL5:=Hi (Nm.own_updV HGd.out.lab hz5 fun b hb e=>(hd.2.2.2.2.2.2 b hb).2.2.1 e);have HK5:=Hi (HGd.out.kno.upd hz5 (fun e=>hd.2.2.2.1 e.symm));have HB5:=Hi (HGd.out.blk.upd hz5 HNB.out);have HX5:=Hi (HXd.out.upd hz5 HNX.out);have HF5:=Hi (show ∃ mf,FuM w0 w5 fb mf fu from by
   obtain ⟨mf,hf⟩:=HGd.out.fun_;exact ⟨mf,hf.upd hz5 hd.2.2.2.2.2.1⟩)
  have HM5:=Hi hM5;have HZ5:=Hi hz5;have HE5:=Hi (HGd.out.bel.trans (hz5.below (B:=w0.heap.size) HGd.out.bel.size fun b hb=>hb ▸ hlow _ (.inr (.inr (.inl rfl)))));clear hdr ht5 hM5 hd hlow;go_wp2_with fail
  have hZ0:Upd (fun b=>b=rb) wd wd:=Upd.refl _ _;refine HT.wp_region (Z:=fun w'=>Upd (fun b=>b=rb) wd w') (S:=fun _=>True) (st:=[]) (by kernel_rfl) ?_;rw [hwd];clear hwd;refine HT.tm 0 rfl hZ0 HT.tr ?_;refine HT.tm 1 rfl hZ0 HT.tr ?_;refine HT.tm 2 rfl hZ0 HT.tr ?_;refine HT.tk 3 rfl (by intro v hSw;have hA:=HGd.out.blk.upd hSw HNB.out;obtain ⟨c0,c1,c2,c3,c4,c5,c6⟩:=Blk.c7 hA;have hga:=hA.lt;clear hSw hA;go_simp;try with_reducible rfl) hZ0 HT.tr ?_;refine HT.tm 4 rfl hZ0 HT.tr ?_;refine HT.tk 5 rfl (by intro v hSw;have hA:=HXd.out.upd hSw HNX.out;obtain ⟨d0,d1,d2,f0,f1,f2⟩:=Blk.c3 hA;have hga:=hA.lt;clear hSw hA;go_simp;try with_reducible rfl) hZ0 HT.tr ?_;refine HT.one (i:=6) (by kernel_rfl) rfl (fun K hK=>?_);go_simp;(try dsimp only);refine hK.out _ _ hz5 trivial ?_;clear hK K;(try simp only [HT.pS]);refine HT.done (by kernel_rfl) ?_;clear hZ0 hz5 hrun;have hdr:Below w5.heap.size w5 w5.drew:=Below.drew (Below.refl _ _);obtain ⟨wy,hwd⟩:∃ u,w5.drew=u:=⟨_,rfl⟩;rw [hwd] at hdr;have HYB:=Hi (HB5.out.below hdr HB5.out.lt);have HYX:=Hi (HX5.out.below hdr HX5.out.lt);have HDR:=Hi hdr;obtain ⟨w7,hrun,hM7,ht7⟩:=mpw_put (HK5.out.upd (Upd.of_below hdr fun _=>False) id) HS.out HM.out v;rw [HV.out] at hrun;have hz7:Upd (fun b=>b=kb) wy w7:=turned_upd ht7 rfl;have hd:=HGd.out.dis;have HNX:=Hi (show ¬ w.heap.size=kb from by have:=HGS.out kb (.inr (.inl rfl));omega);have HNB:=Hi (show ¬ g=kb from fun h=>hd.1 h.symm);have hz57:Upd (fun b=>b=kb) w5 w7:=(Upd.of_below hdr _).trans hz7;have HEND:=Hi (show SetP w0 w ⟨g,kb,fb,rb⟩ vl fu k0 c m s v (.returned (.tuple #[])) w7 from by
   refine ⟨rfl,fm.put s v,⟨HYB.out.upd hz7 HNB.out,hM7,HM5.out.upd hz57 (fun e=>hd.2.2.2.1 e),fun t=>?_,fun t ht=>?_,?_,Nm.own_updV HL5.out hz57 fun b hb e=>(hd.2.2.2.2.2.2 b hb).2.1 e,hd,HGd.out.low,Nat.le_succ_of_le HGd.out.oub,HGd.out.rdb,HE5.out.trans (hz57.below (B:=w0.heap.size) HE5.out.size fun b hb=>hb ▸ HGd.out.low _ (.inr (.inl rfl))),HGd.out.fok⟩,?_⟩
   ·have h:=HGd.out.frk t;show ((fm.put s v) t).isSome=(((c.kn.put s v) t).isSome && !(k0 t).isSome);unfold Kw.put;by_cases e:t=s
    ·subst e;rw [if_pos rfl,if_pos rfl];have:(k0 t).isSome=false:=by
      cases hk:(k0 t).isSome with
      | false=>rfl
      | true=>
       have h1:=HGd.out.dom t hk;rw [HTH.out] at h1;cases h1
     rw [this];rfl
    ·rw [if_neg e,if_neg e];exact h
   ·show ((c.kn.put s v) t).isSome=true;unfold Kw.put;by_cases e:t=s
    ·rw [if_pos e];rfl
    ·rw [if_neg e];exact HGd.out.dom t ht
   ·obtain ⟨mf,hf⟩:=HF5.out;exact ⟨mf,hf.upd hz57 hd.2.2.2.2.1⟩
   ·exact ((Upd.of_below HBd.out _).trans (HZ5.out.mono fun b hb=>.inr hb)).trans (hz57.mono fun b hb=>.inl hb))
  clear hdr ht7 hM7 hd hz57;go_wp2_with fail
  have hZ0:Upd (fun b=>b=kb) wy wy:=Upd.refl _ _;refine HT.wp_region (Z:=fun w'=>Upd (fun b=>b=kb) wy w') (S:=fun _=>True) (st:=[]) (by kernel_rfl) ?_;rw [hwd];clear hwd;refine HT.tm 0 rfl hZ0 HT.tr ?_;refine HT.tm 1 rfl hZ0 HT.tr ?_;refine HT.tm 2 rfl hZ0 HT.tr ?_;refine HT.tk 3 rfl (by intro v hSw;have hA:=HYB.out.upd hSw HNB.out;obtain ⟨c0,c1,c2,c3,c4,c5,c6⟩:=Blk.c7 hA;have hga:=hA.lt;clear hSw hA;go_simp;try with_reducible rfl) hZ0 HT.tr ?_;refine HT.tm 4 rfl hZ0 HT.tr ?_;refine HT.tk 5 rfl (by intro v hSw;have hA:=HYX.out.upd hSw HNX.out;obtain ⟨d0,d1,d2,f0,f1,f2⟩:=Blk.c3 hA;have hga:=hA.lt;clear hSw hA;go_simp;try with_reducible rfl) hZ0 HT.tr ?_;refine HT.one (i:=6) (by kernel_rfl) rfl (fun K hK=>?_);go_simp;(try dsimp only);refine hK.out _ _ hz7 trivial ?_;clear hK K;(try simp only [HT.pS]);refine HT.done (by kernel_rfl) ?_;clear hZ0 hz7 hrun;go_wp2_with fail
  first | go_end0 | skip
  all_goals first | exact HEND.out | exact bodyPost_ret (results_none rfl _ _ _) rfl HEND.out
 | true=>
  have hdr:Below w2.heap.size w2 w2.drew:=Below.drew (Below.refl _ _);obtain ⟨wy,hwd⟩:∃ u,w2.drew=u:=⟨_,rfl⟩;rw [hwd] at hdr;have HGd:=Hi (HG2.out.below hdr);have HYX:=Hi (HX2.out.below hdr HX2.out.lt);have HBd:=Hi (HB2.out.trans (hdr.mono HB2.out.size));have HYB:=Hi HGd.out.blk;obtain ⟨w7,hrun,hM7,ht7⟩:=mpw_put HGd.out.kno HS.out HM.out v;rw [HV.out] at hrun;have hz7:Upd (fun b=>b=kb) wy w7:=turned_upd ht7 rfl;have hd:=HGd.out.dis;have HNX:=Hi (show ¬ w.heap.size=kb from by have:=HGS.out kb (.inr (.inl rfl));omega);have HNB:=Hi (show ¬ g=kb from fun h=>hd.1 h.symm);have HEND:=Hi (show SetP w0 w ⟨g,kb,fb,rb⟩ vl fu k0 c m s v (.returned (.tuple #[])) w7 from by
   refine ⟨rfl,fm,⟨HYB.out.upd hz7 HNB.out,hM7,(HGd.out.fre.upd hz7 (fun e=>hd.2.2.2.1 e)).mono (Nat.le_succ m),fun t=>?_,fun t ht=>?_,?_,Nm.own_updV HGd.out.lab hz7 fun b hb e=>(hd.2.2.2.2.2.2 b hb).2.1 e,hd,HGd.out.low,Nat.le_succ_of_le HGd.out.oub,HGd.out.rdb,HGd.out.bel.trans (hz7.below (B:=w0.heap.size) HGd.out.bel.size fun b hb=>hb ▸ HGd.out.low _ (.inr (.inl rfl))),HGd.out.fok⟩,?_⟩
   ·have h:=HGd.out.frk t;show (fm t).isSome=(((c.kn.put s v) t).isSome && !(k0 t).isSome);unfold Kw.put;by_cases e:t=s
    ·subst e;rw [if_pos rfl,h,HTH.out];rfl
    ·rw [if_neg e];exact h
   ·show ((c.kn.put s v) t).isSome=true;unfold Kw.put;by_cases e:t=s
    ·rw [if_pos e];rfl
    ·rw [if_neg e];exact HGd.out.dom t ht
   ·obtain ⟨mf,hf⟩:=HGd.out.fun_;exact ⟨mf,hf.upd hz7 hd.2.2.2.2.1⟩
   ·exact (Upd.of_below HBd.out _).trans (hz7.mono fun b hb=>.inl hb))
  clear hdr ht7 hM7 hd;go_wp2_with fail
  have hZ0:Upd (fun b=>b=kb) wy wy:=Upd.refl _ _;refine HT.wp_region (Z:=fun w'=>Upd (fun b=>b=kb) wy w') (S:=fun _=>True) (st:=[]) (by kernel_rfl) ?_;rw [hwd];clear hwd;refine HT.tm 0 rfl hZ0 HT.tr ?_;refine HT.tm 1 rfl hZ0 HT.tr ?_;refine HT.tm 2 rfl hZ0 HT.tr ?_;refine HT.tk 3 rfl (by intro v hSw;have hA:=HYB.out.upd hSw HNB.out;obtain ⟨c0,c1,c2,c3,c4,c5,c6⟩:=Blk.c7 hA;have hga:=hA.lt;clear hSw hA;go_simp;try with_reducible rfl) hZ0 HT.tr ?_;refine HT.tm 4 rfl hZ0 HT.tr ?_;refine HT.tk 5 rfl (by intro v hSw;have hA:=HYX.out.upd hSw HNX.out;obtain ⟨d0,d1,d2,f0,f1,f2⟩:=Blk.c3 hA;have hga:=hA.lt;clear hSw hA;go_simp;try with_reducible rfl) hZ0 HT.tr ?_;refine HT.one (i:=6) (by kernel_rfl) rfl (fun K hK=>?_);go_simp;(try dsimp only);refine hK.out _ _ hz7 trivial ?_;clear hK K;(try simp only [HT.pS]);refine HT.done (by kernel_rfl) ?_;clear hZ0 hz7 hrun;go_wp2_with fail
  first | go_end0 | skip
  all_goals first | exact HEND.out | exact bodyPost_ret (results_none rfl _ _ _) rfl HEND.out
theorem hd_seq(f:Tz→Int→Rf (Bool×Int))(l:List Tz)(nd:Int):hdB l nd f=bndF (seqB f (l.take 1) nd) fun q=>.ok (q.1.any id,q.2):=by
 cases l with
 | nil=>rfl
 | cons x l=>
  rw [show (x :: l).take 1=[x] from rfl,seq_one];rfl
def ValP(w0 w:World)(G:Gx)(vl:Value)(fu:Fu)(k0:Kw)(c:Sf)(fm:Kw)(m:Nat)(r:Rf (Bool×Int))(e:Ending)(w':World):Prop:=
 match r with
 | .ok q=>e = .returned (.bool q.1)∧CG w0 w' G vl fu k0 { c with nd:=q.2 } fm m∧Upd (fun b=>b=G.g) w w'
 | .bad a er=>e=panF a er∧Upd (fun b=>b=G.g) w w'
theorem value_{w0:World}(w:World)(G:Gx)(vl:Value)(fu:Fu)(k0:Kw)(c:Sf)(fm:Kw)(m:Nat)(hG:CG w0 w G vl fu k0 c fm m)(ps:List Bs)(l:List Tz)(k a:Int)(s:Bs)(n:Nat)(A:Option Addr)(la cA:Nat)(B:Option Addr)(lb cB:Nat)(hT:TrV w0 (.mk k a s n ps l) k a s n A la cA B lb cB)(hok:okCs fu (l.take 1)) :
  Calls Tryz.prog 54 #[.pointer (some ⟨G.g,0,none⟩),nzA k a s n A la cA B lb cB] w (ValP w0 w G vl fu k0 c fm m (hdB l c.nd (xC fu 61 c.kn))):=by
 obtain ⟨-,-,-,-,rfl,rfl,hP,-,-,-,-,-,-⟩:=hT.parts;obtain ⟨wn,hwn,hbn,hXn,hsn⟩:=a_box w (nB k a s n A l.length cA B ps.length cB);obtain ⟨⟨e0,e1,e2,e3,e4,e5⟩,z0,z1,z2,z3,z4,z5⟩:=Blk.c6 hXn;have HG:=Hi (hG.below hbn);have HOK:=Hi hok;have HP:=Hi hP;have HW:=Hi hwn;have HU:=Hi (Upd.of_below hbn (fun b=>b=G.g));have HCU:=Hi (cutL wn 1 hP (by decide));obtain ⟨res,hres⟩:∃ res,hdB l c.nd (xC fu 61 c.kn)=res:=⟨_,rfl⟩;rw [hres];rw [hd_seq] at hres;have HRES:=Hi hres;clear hG hT hP hok hwn hbn hXn hsn hres;go_enter Tryz.func54,Tryz.ntmps54;go_upto_region 1 with fail
 rw [HW.out];go_wp2_with fail
 refine (show Calls Tryz.prog 45 #[.slice A l.length cA,.int .i64 1] wn _ from HCU.out).mono ?_;rintro e w1 ⟨l1,l2,A1,c1,A2,c2,h1,h2,rfl,hP1,hP2,hb1⟩;have hG1:=HG.out.below hb1;have HU1:=Hi (HU.out.trans (Upd.of_below hb1 _));have HG1:=Hi hG1;have HE:=Hi (exprs_ (fu:=fu) l1 (fun y _=>expr_all 61 (Nat.le_refl _) y) ⟨.map (some G.kb),G.fb,vl,.map (some G.rb),(c.rd:Int)⟩ w1 G.kb c.kn c.nd 0 A1 c1 (by decide) hG1.cx hP1 (by rw [h1];exact HOK.out) hG1.blk);unfold XsP at HE;rw [show (bndF (seqB (xC fu 61 c.kn) l1 c.nd) fun q=>.ok (q.1.any id,q.2))=res from by rw [h1];exact HRES.out] at HE;obtain ⟨d0,d1,d2,d3,d4,d5,d6⟩:=Blk.c7 hG1.blk;have hgl:=hG1.blk.lt;clear h1 h2 hP1 hP2 hb1 hG1 HRES e0 e1 e2 e3 e4 e5 z0 z1 z2 z3 z4 z5;go_wp2_with fail
 refine (show Calls Tryz.prog 69 #[.pointer (some ⟨G.g,0,none⟩),.slice A1 l1.length c1,.map (some G.kb)] w1 _ from HE.out).mono ?_;intro e w4 h4;clear d0 d1 d2 d3 d4 d5 d6 hgl;cases res with
 | bad a2 er2=>
  obtain ⟨rfl,hu4⟩:=h4;have HEND:=Hi (show ValP w0 w G vl fu k0 c fm m (.bad a2 er2) (panF a2 er2) w4 from ⟨rfl,HU1.out.trans hu4⟩);clear hu4;go_wp2_with fail
  exact ⟨rfl,HEND.out⟩
 | ok q=>
  obtain ⟨b2,nd2⟩:=q;obtain ⟨rfl,hB4,hu4⟩:=h4;have HEND:=Hi (show ValP w0 w G vl fu k0 c fm m (.ok (b2,nd2)) (.returned (.bool b2)) w4 from ⟨rfl,HG1.out.box hu4 (rd:=c.rd) (nd:=nd2) hB4 HG1.out.rdb,HU1.out.trans hu4⟩);clear hB4 hu4;go_wp2_with fail
  go_ret;exact HEND.out
def outR(fu:Fu)(k a:Int)(s:Bs)(l:List Tz)(c:Sf):Rf Sf:=
 bndF (hdB l c.nd (xC fu 61 c.kn)) fun q=>if q.1=true∧k = 9 then .bad a 130 else .ok { c with nd:=q.2,ou:=c.ou ++ [(s,q.1,decide (k = 9))] }
def Nw(vl vl':Value)(w:World):Prop:=vl'.ownBlock=vl.ownBlock∨∃ n,w.heap.size≤n∧vl'.ownBlock=some n
def OuP(w0 w:World)(G:Gx)(vl:Value)(fu:Fu)(k0:Kw)(fm:Kw)(m:Nat)(r:Rf Sf)(e:Ending)(w':World):Prop:=
 match r with
 | .ok c=>e = .returned (.tuple #[])∧∃ vl',CG w0 w' G vl' fu k0 c fm (m+1)∧Nw vl vl' w∧Upd (fun b=>b=G.g∨vl.ownBlock=some b) w w'
 | .bad a er=>e=panF a er∧Upd (fun b=>b=G.g∨vl.ownBlock=some b) w w'
theorem fst3{w:World}{g:Nat}{t:TypeId}{a b c:Value}(H:Blk w g t #[a,b,c]):w.cell? ⟨g,0,none⟩=some a∧w.cell? ⟨g,1,none⟩=some b∧w.cell? ⟨g,2,none⟩=some c∧w.frozen? ⟨g,0,none⟩=false∧w.frozen? ⟨g,1,none⟩=false∧w.frozen? ⟨g,2,none⟩=false:=
 ⟨H.cell 0,H.cell 1,H.cell 2,H.frozen 0,H.frozen 1,H.frozen 2⟩
structure OuI(w0 w wx:World)(G:Gx)(vl:Value)(fu:Fu)(k0:Kw)(c:Sf)(fm:Kw)(m:Nat)(lb:Nat)(s:Bs)(sc sh:Bool)(nd:Int)(nb:Array Value):Prop where
 cg:CG w0 wx G vl fu k0 { c with nd:=nd } fm m
 lab:Blk wx lb 36 #[.string ⟨s.toArray⟩,.bool sc,.bool sh]
 nod:Blk wx w.heap.size 26 nb
 upd:Upd (fun b=>b=G.g) w wx
 new:w.heap.size < lb
theorem upd_new{X:Nat→Prop}{w w1 w2:World}(h:Upd X w w1){lb:Nat}(hl:w.heap.size≤lb)(h2:Upd (fun b=>b=lb) w1 w2):Upd X w w2:=upd_then h h2 fun b hb hlt=>by omega
theorem CG.far1{w0 w w':World}{G:Gx}{vl:Value}{fu:Fu}{k0:Kw}{c:Sf}{fm:Kw}{m:Nat}(h:CG w0 w G vl fu k0 c fm m){lb:Nat}(hu:Upd (fun b=>b=lb) w w')(hl:¬ ow G vl lb)(hf:G.fb≠lb)(hlo:w0.heap.size≤lb):CG w0 w' G vl fu k0 c fm m:=by
 refine ⟨h.blk.upd hu fun e=>hl (.inl e.symm),h.kno.upd hu fun e=>hl (.inr (.inl e.symm)),h.fre.upd hu fun e=>hl (.inr (.inr (.inl e.symm))),h.frk,h.dom,?_,Nm.own_updV h.lab hu fun b hb e=>hl (.inr (.inr (.inr (e ▸ hb)))),h.dis,h.low,h.oub,h.rdb,h.bel.trans (hu.below (B:=w0.heap.size) h.bel.size fun b hb=>hb ▸ hlo),h.fok⟩;obtain ⟨mf,hm⟩:=h.fun_;exact ⟨mf,hm.upd hu hf⟩
theorem output_{w0:World}(w:World)(G:Gx)(vl:Value)(fu:Fu)(k0:Kw)(c:Sf)(fm:Kw)(m:Nat)(hG:CG w0 w G vl fu k0 c fm m)(hm:m+1≤1099511627776)(ps:List Bs)(l:List Tz)(k a:Int)(s:Bs)(n:Nat)(A:Option Addr)(la cA:Nat)(B:Option Addr)(lb cB:Nat)(hT:TrV w0 (.mk k a s n ps l) k a s n A la cA B lb cB)(hok:okCs fu (l.take 1)) :
  Calls Tryz.prog 55 #[.pointer (some ⟨G.g,0,none⟩),nzA k a s n A la cA B lb cB] w (OuP w0 w G vl fu k0 fm m (outR fu k a s l c)):=by
 obtain ⟨i0,hi,hz⟩:=Option.map_eq_some_iff.1 infoL;have hz0:=congrArg (·.1) hz;have hz1:=congrArg (·.2.1) hz;have hz2:=congrArg (·.2.2) hz;have HI:=Hi hi;have HZ0:=Hi hz0;have HZ1:=Hi hz1;have HZ2:=Hi hz2;clear hi hz hz0 hz1 hz2;obtain ⟨wn,hwn,hbn,hXn,hsn⟩:=a_box w (nB k a s n A la cA B lb cB);have hdr:Below wn.heap.size wn wn.drew:=Below.drew (Below.refl _ _);obtain ⟨wd,hwd⟩:∃ u,wn.drew=u:=⟨_,rfl⟩;rw [hwd] at hdr;have hbd:=hbn.trans (hdr.mono hbn.size);have hsd:wd.heap.size=w.heap.size+1:=by rw [←hwd];exact hsn
 have HGd:=Hi (hG.below hbd);have HXd:=Hi (hXn.below hdr hXn.lt);have HUd:=Hi (Upd.of_below hbd (fun b=>b=G.g));have HW:=Hi hwn;have HWD:=Hi hwd;have HSD:=Hi hsd;have HTT:=Hi hT;have HOK:=Hi hok;have HM:=Hi hm;have HOW:=Hi hG.lt;have HNX:=Hi (show ¬ w.heap.size=G.g from by have:=hG.lt _ (.inl rfl);omega);obtain ⟨rv,hrv⟩:∃ rv,hdB l c.nd (xC fu 61 c.kn)=rv:=⟨_,rfl⟩;obtain ⟨res,hres⟩:∃ res,outR fu k a s l c=res:=⟨_,rfl⟩;rw [hres];unfold outR at hres;rw [hrv] at hres;have HRES:=Hi hres;have HRV:=Hi hrv;have hkk:(k==9)=decide (k = 9):=by rw [Bool.eq_iff_iff];simp
 obtain ⟨sh,hsh⟩:∃ sh,(k==9)=sh:=⟨_,rfl⟩;have HSH:=Hi (show decide (k = 9)=sh from hkk.symm.trans hsh);clear hG hT hok hwn hbn hXn hsn hdr hwd hbd hsd hres hrv hm hkk;go_enter Tryz.func55,Tryz.ntmps55;go_upto_region 1 with fail
 rw [HW.out]
 go_cut [4] from 5 to 13 (fun s4 wx=>∃ (lb0:Nat) (sc:Bool) (nd:Int),s4 = .pointer (some ⟨lb0,0,none⟩)∧Hid (OuI w0 w wx G vl fu k0 c fm m lb0 s sc sh nd (nB k a s n A la cA B lb cB))∧Hid (rv = .ok (sc,nd)))
 case first=>
  have hwd:=HWD.out;have hZ0:Upd (fun b=>b=G.g) wd wd:=Upd.refl _ _;refine HT.wp_region (Z:=fun w'=>Upd (fun b=>b=G.g) wd w') (S:=fun _=>True) (st:=[]) (by kernel_rfl) ?_;rw [hwd];clear hwd;refine HT.tk 0 rfl (by intro v hSw;have hA:=HXd.out.upd hSw HNX.out;have E_:=Blk.c6 hA;have hga:=hA.lt;clear hSw hA;go_simp;try with_reducible rfl) hZ0 HT.tr ?_;refine HT.tk 1 rfl (by intro v hSw;have hA:=HXd.out.upd hSw HNX.out;have E_:=Blk.c6 hA;have hga:=hA.lt;clear hSw hA;go_simp;try with_reducible rfl) hZ0 HT.tr ?_;refine HT.tm 2 rfl hZ0 HT.tr ?_;refine HT.tk 3 rfl (by intro v hSw;have hA:=HXd.out.upd hSw HNX.out;have E_:=Blk.c6 hA;have hga:=hA.lt;clear hSw hA;go_simp;try with_reducible rfl) hZ0 HT.tr ?_;refine HT.tk 5 rfl (by intro v hSw;have hA:=HXd.out.upd hSw HNX.out;have E_:=Blk.c6 hA;have hga:=hA.lt;clear hSw hA;go_simp;try with_reducible rfl) hZ0 HT.tr ?_;refine HT.tk 6 rfl (by intro v hSw;have hA:=HXd.out.upd hSw HNX.out;have E_:=Blk.c6 hA;have hga:=hA.lt;clear hSw hA;go_simp;try with_reducible rfl) hZ0 HT.tr ?_;refine HT.tm 7 rfl hZ0 HT.tr ?_;refine HT.two (i:=4) (j:=9) (by kernel_rfl) rfl rfl (fun K hK=>?_) (fun K hK=>?_)
  ·go_simp;have HV:=Hi (value_ wd G vl fu k0 c fm m HGd.out ps l k a s n A la cA B lb cB HTT.out HOK.out);rw [HRV.out] at HV;refine (show Calls Tryz.prog 54 #[.pointer (some ⟨G.g,0,none⟩),nzA k a s n A la cA B lb cB] wd _ from HV.out).mono ?_;intro e w4 h4;cases rv with
   | bad a2 er2=>
    obtain ⟨rfl,hu4⟩:=h4;have HEND:=Hi (show OuP w0 w G vl fu k0 fm m res (panF a2 er2) w4 from by
     rw [←show Rf.bad a2 er2=res from HRES.out];exact ⟨rfl,(HUd.out.trans hu4).mono fun b hb=>.inl hb⟩)
    exact ⟨rfl,HEND.out⟩
   | ok q=>
    obtain ⟨sc,nd⟩:=q;obtain ⟨rfl,hG4,hu4⟩:=h4;have hz4:Upd (fun b=>b=G.g) wd w4:=hu4;(try dsimp only);refine hK.out _ _ hz4 trivial ?_;clear hK K;(try simp only [HT.pS]);refine HT.tm 8 rfl hz4 HT.tr ?_;obtain ⟨w5,hw5⟩:∃ u,w4.alloc (.cells #[.string ⟨#[]⟩,.bool false,.bool false] 36)=u:=⟨_,rfl⟩;have hb5:Below w4.heap.size w4 w5:=by rw [←hw5];exact (Below.refl _ _).alloc (Nat.le_refl _) _
    have hX5:Blk w5 w4.heap.size 36 #[.string ⟨#[]⟩,.bool false,.bool false]:=by rw [←hw5];exact Blk.new _ _ _
    have hz5:Upd (fun b=>b=G.g) wd w5:=hz4.trans (Upd.of_below hb5 _);obtain ⟨l5,hl5⟩:∃ l5,w4.heap.size=l5:=⟨_,rfl⟩;rw [hl5] at hX5;have hl5d:w.heap.size < l5:=by have:=hz4.size;have:=HSD.out;omega
    refine HT.one (i:=9) (by kernel_rfl) rfl (fun K hK=>?_);go_simp;(try rw [hw5]);(try rw [hl5]);(try dsimp only);refine hK.out _ _ hz5 trivial ?_;clear hK K;(try simp only [HT.pS]);obtain ⟨d0,d1,d2,f0,f1,f2⟩:=fst3 hX5;have hgl:=hX5.lt;have hz6:Upd (fun b=>b=G.g) wd (((w5.setCell ⟨l5,0,none⟩ (.string ⟨s.toArray⟩)).setCell ⟨l5,1,none⟩ (.bool sc)).setCell ⟨l5,2,none⟩ (.bool sh)):=((hz5.setCell (p:=⟨l5,0,none⟩) (fun h=>absurd h (by show ¬ l5 < _;have:=HSD.out;omega)) _).setCell (p:=⟨l5,1,none⟩) (fun h=>absurd h (by show ¬ l5 < _;have:=HSD.out;omega)) _).setCell (p:=⟨l5,2,none⟩) (fun h=>absurd h (by show ¬ l5 < _;have:=HSD.out;omega)) _;have hus:Upd (fun b=>b=l5) w5 (((w5.setCell ⟨l5,0,none⟩ (.string ⟨s.toArray⟩)).setCell ⟨l5,1,none⟩ (.bool sc)).setCell ⟨l5,2,none⟩ (.bool sh)):=(((Upd.refl (fun b=>b=l5) w5).setCell (p:=⟨l5,0,none⟩) (fun _=>rfl) _).setCell (p:=⟨l5,1,none⟩) (fun _=>rfl) _).setCell (p:=⟨l5,2,none⟩) (fun _=>rfl) _;have HI5:=Hi (show OuI w0 w (((w5.setCell ⟨l5,0,none⟩ (.string ⟨s.toArray⟩)).setCell ⟨l5,1,none⟩ (.bool sc)).setCell ⟨l5,2,none⟩ (.bool sh)) G vl fu k0 c fm m l5 s sc sh nd (nB k a s n A la cA B lb cB) from
     ⟨(hG4.below hb5).far1 hus (fun h=>by have:=hG4.lt _ h;omega) (by obtain ⟨mf,hf⟩:=hG4.fun_;have:=hf.lt;omega) (by have:=hG4.bel.size;omega),((hX5.set 0 _).set 1 _).set 2 _,HXd.out.upd hz6 HNX.out,HUd.out.trans hz6,hl5d⟩)
    refine HT.one (i:=10) (by kernel_rfl) rfl (fun K hK=>?_);go_simp;(try dsimp only);refine hK.out _ _ hz6 trivial ?_;clear hK K;(try simp only [HT.pS]);refine HT.done (by kernel_rfl) ?_;clear hz4 hz5 hz6 hus hG4 hu4 hw5 hb5 hX5 hl5 d0 d1 d2 f0 f1 f2 hZ0;go_wp2_with fail
    go_meet
    exact ⟨_,_,_,rfl,HI5,Hi rfl⟩
  ·obtain ⟨w5,hw5⟩:∃ u,wd.alloc (.cells #[.string ⟨#[]⟩,.bool false,.bool false] 36)=u:=⟨_,rfl⟩;have hb5:Below wd.heap.size wd w5:=by rw [←hw5];exact (Below.refl _ _).alloc (Nat.le_refl _) _
   have hX5:Blk w5 wd.heap.size 36 #[.string ⟨#[]⟩,.bool false,.bool false]:=by rw [←hw5];exact Blk.new _ _ _
   have hz5:Upd (fun b=>b=G.g) wd w5:=Upd.of_below hb5 _;obtain ⟨l5,hl5⟩:∃ l5,wd.heap.size=l5:=⟨_,rfl⟩;rw [hl5] at hX5;have hl5d:w.heap.size < l5:=by have:=HSD.out;omega
   go_simp;(try rw [hw5]);(try rw [hl5]);(try dsimp only);refine hK.out _ _ hz5 trivial ?_;clear hK K;(try simp only [HT.pS]);refine HT.one (i:=4) (by kernel_rfl) rfl (fun K hK=>?_);go_simp;have HV:=Hi (value_ w5 G vl fu k0 c fm m (HGd.out.below hb5) ps l k a s n A la cA B lb cB HTT.out HOK.out);rw [HRV.out] at HV;refine (show Calls Tryz.prog 54 #[.pointer (some ⟨G.g,0,none⟩),nzA k a s n A la cA B lb cB] w5 _ from HV.out).mono ?_;intro e w4 h4;cases rv with
   | bad a2 er2=>
    obtain ⟨rfl,hu4⟩:=h4;have HEND:=Hi (show OuP w0 w G vl fu k0 fm m res (panF a2 er2) w4 from by
     rw [←show Rf.bad a2 er2=res from HRES.out];exact ⟨rfl,((HUd.out.trans hz5).trans hu4).mono fun b hb=>.inl hb⟩)
    exact ⟨rfl,HEND.out⟩
   | ok q=>
    obtain ⟨sc,nd⟩:=q;obtain ⟨rfl,hG4,hu4⟩:=h4;have hz4:Upd (fun b=>b=G.g) wd w4:=hz5.trans hu4;(try dsimp only);refine hK.out _ _ hz4 trivial ?_;clear hK K;(try simp only [HT.pS]);refine HT.tm 8 rfl hz4 HT.tr ?_;have hgn5:¬ l5=G.g:=by have:=HGd.out.lt _ (.inl rfl);omega
    have hX4:=hX5.upd hu4 hgn5;obtain ⟨d0,d1,d2,f0,f1,f2⟩:=fst3 hX4;have hgl:=hX4.lt;have hz6:Upd (fun b=>b=G.g) wd (((w4.setCell ⟨l5,0,none⟩ (.string ⟨s.toArray⟩)).setCell ⟨l5,1,none⟩ (.bool sc)).setCell ⟨l5,2,none⟩ (.bool sh)):=((hz4.setCell (p:=⟨l5,0,none⟩) (fun h=>absurd h (by show ¬ l5 < _;have:=HSD.out;omega)) _).setCell (p:=⟨l5,1,none⟩) (fun h=>absurd h (by show ¬ l5 < _;have:=HSD.out;omega)) _).setCell (p:=⟨l5,2,none⟩) (fun h=>absurd h (by show ¬ l5 < _;have:=HSD.out;omega)) _;have hus:Upd (fun b=>b=l5) w4 (((w4.setCell ⟨l5,0,none⟩ (.string ⟨s.toArray⟩)).setCell ⟨l5,1,none⟩ (.bool sc)).setCell ⟨l5,2,none⟩ (.bool sh)):=(((Upd.refl (fun b=>b=l5) w4).setCell (p:=⟨l5,0,none⟩) (fun _=>rfl) _).setCell (p:=⟨l5,1,none⟩) (fun _=>rfl) _).setCell (p:=⟨l5,2,none⟩) (fun _=>rfl) _;have HI5:=Hi (show OuI w0 w (((w4.setCell ⟨l5,0,none⟩ (.string ⟨s.toArray⟩)).setCell ⟨l5,1,none⟩ (.bool sc)).setCell ⟨l5,2,none⟩ (.bool sh)) G vl fu k0 c fm m l5 s sc sh nd (nB k a s n A la cA B lb cB) from
     ⟨hG4.far1 hus (fun h=>by have:=HGd.out.lt _ h;omega) (by obtain ⟨mf,hf⟩:=HGd.out.fun_;have:=hf.lt;omega) (by have:=HGd.out.bel.size;omega),((hX4.set 0 _).set 1 _).set 2 _,HXd.out.upd hz6 HNX.out,HUd.out.trans hz6,hl5d⟩)
    refine HT.one (i:=10) (by kernel_rfl) rfl (fun K hK=>?_);go_simp;(try dsimp only);refine hK.out _ _ hz6 trivial ?_;clear hK K;(try simp only [HT.pS]);refine HT.done (by kernel_rfl) ?_;clear hz4 hz6 hus hG4 hu4 hX4 d0 d1 d2 f0 f1 f2 hZ0;go_wp2_with fail
    go_meet
    exact ⟨_,_,_,rfl,HI5,Hi rfl⟩
 case rest=>
  obtain ⟨lb0,sc,nd,rfl,HI5,HRV2⟩:=hcut;have hr:=HRES.out;rw [HRV2.out] at hr;have hr2:(if sc=true∧k = 9 then Rf.bad a 130 else .ok { c with nd:=nd,ou:=c.ou ++ [(s,sc,decide (k = 9))] })=res:=hr;rw [HSH.out] at hr2;have HR2:=Hi hr2;have hI:=HI5.out;obtain ⟨d0,d1,d2,f0,f1,f2⟩:=fst3 hI.lab;have hgl:=hI.lab.lt;obtain ⟨⟨e0,e1,e2,e3,e4,e5⟩,z0,z1,z2,z3,z4,z5⟩:=Blk.c6 hI.nod;have hgn:=hI.nod.lt;clear hr hr2 hI HRV HRV2 HRES HOK HTT HGd HXd HUd HSD HWD HW;generalize wc=wD at *;by_cases hbad:sc=true∧sh=true
  ·obtain ⟨rfl,rfl⟩:=hbad;have HEND:=Hi (show OuP w0 w G vl fu k0 fm m res (panF a 130) wD from by
    rw [←HR2.out,if_pos ⟨rfl,of_decide_eq_true HSH.out⟩];exact ⟨rfl,HI5.out.upd.mono fun b hb=>.inl hb⟩)
   go_wp2_with fail
   exact ⟨rfl,HEND.out⟩
  ·have hr3:Rf.ok { c with nd:=nd,ou:=c.ou ++ [(s,sc,sh)] }=res:=by
    rw [←HR2.out,if_neg (fun h=>hbad ⟨h.1,by rw [←HSH.out];exact decide_eq_true h.2⟩)]
   have HR3:=Hi hr3;have hdr:Below wD.heap.size wD wD.drew:=Below.drew (Below.refl _ _);obtain ⟨wz,hwd⟩:∃ u,wD.drew=u:=⟨_,rfl⟩;rw [hwd] at hdr;have HGz:=Hi (HI5.out.cg.below hdr);have HLz:=Hi (HI5.out.lab.below hdr HI5.out.lab.lt);have HUz:=Hi (HI5.out.upd.trans (Upd.of_below hdr _));have HNL:=Hi (show ¬ (vl.ownBlock=some lb0∨lb0=G.g) from fun h=>by
    have:=HI5.out.new;rcases h with h | h
    ·have:=HOW.out _ (.inr (.inr (.inr h)));omega
    ·have:=HOW.out _ (.inl rfl);omega)
   have hd:=HGz.out.dis;have HGV:=Hi (show ¬ vl.ownBlock=some G.g from fun h=>(hd.2.2.2.2.2.2 _ h).1 rfl);have hZ0:Upd (fun b=>vl.ownBlock=some b∨b=G.g) wz wz:=Upd.refl _ _;have hS0:Upd (fun b=>vl.ownBlock=some b) wz wz:=Upd.refl _ _;obtain ⟨w4,hw4⟩:∃ v,wz.alloc (.cells #[.string ⟨s.toArray⟩,.bool sc,.bool sh] 36)=v:=⟨_,rfl⟩;have hb4:Below wz.heap.size wz w4:=by rw [←hw4];exact (Below.refl _ _).alloc (Nat.le_refl _) _
   have hL4:Lies w4 (some ⟨wz.heap.size,0,none⟩) (lbC (s,sc,sh)):=by rw [←hw4];exact lies_full _ _ _
   have ho4:w4.ownsRow w0.heap.size 36 3 vl c.ou.length (c.ou.flatMap lbC):=Nm.own_updV HGz.out.lab (Upd.of_below hb4 fun _=>False) fun _ _ h=>h
   have hlo4:w0.heap.size≤w4.heap.size:=Nat.le_trans HGz.out.bel.size hb4.size;have hou:c.ou.length+1≤1099511627776:=by have h1:c.ou.length≤m:=HGz.out.oub;have:=HM.out;omega
   have hz4:Upd (fun b=>vl.ownBlock=some b∨b=G.g) wz w4:=Upd.of_below hb4 _;have hs4:Upd (fun b=>vl.ownBlock=some b) wz w4:=Upd.of_below hb4 _;have HWD:=Hi hwd;have hsz:=HLz.out.lt;have hbad2:¬ (sc=true∧sh=true):=hbad;clear hr3 hbad hdr hwd hd e0 e1 e2 e3 e4 e5 z0 z1 z2 z3 z4 z5 hgn;have fin:∀ (vA:Option Addr) (vc:Nat) (w8:World),Upd (fun b=>vl.ownBlock=some b) wz w8→w8.ownsRow w0.heap.size 36 3 (.slice vA (c.ou.length+1) vc) (c.ou.length+1) (c.ou.flatMap lbC ++ lbC (s,sc,sh))→((Value.slice vA (c.ou.length+1) vc).ownBlock=vl.ownBlock∨(Value.slice vA (c.ou.length+1) vc).ownBlock=some w4.heap.size) →
     OuP w0 w G vl fu k0 fm m res (.returned (.tuple #[])) (w8.setCell ⟨G.g,2,none⟩ (.slice vA (c.ou.length+1) vc)):=fun vA vc w8 hs8 hown hat=>by
    rw [←HR3.out];have hg:=HGz.out;have hd:=hg.dis;have hlt:=hg.lt;have hfn:∀ b,(Value.slice vA (c.ou.length+1) vc).ownBlock=some b→b≠G.g∧b≠G.kb∧b≠G.rb∧b≠G.fb:=fun b hb=>by
     rcases hat with h | h
     ·rw [h] at hb;exact hd.2.2.2.2.2.2 b hb
     ·rw [h] at hb;cases hb;have h1:=hb4.size;obtain ⟨mf,hf⟩:=hg.fun_;have h2:=hf.lt;have h3:=hlt _ (.inl rfl);have h4:=hlt _ (.inr (.inl rfl));have h5:=hlt _ (.inr (.inr (.inl rfl)));omega
    have hu:Upd (fun b=>b=G.g∨vl.ownBlock=some b) wz (w8.setCell ⟨G.g,2,none⟩ (.slice vA (c.ou.length+1) vc)):=(hs8.mono fun b hb=>.inr hb).setCell (p:=⟨G.g,2,none⟩) (fun _=>.inl rfl) _;refine ⟨rfl,.slice vA (c.ou.length+1) vc,⟨(hg.blk.upd hs8 HGV.out).set 2 _,?_,?_,hg.frk,hg.dom,?_,?_,⟨hd.1,hd.2.1,hd.2.2.1,hd.2.2.2.1,hd.2.2.2.2.1,hd.2.2.2.2.2.1,hfn⟩,?_,?_,hg.rdb,?_,hg.fok⟩,?_,?_⟩
    ·exact ((hg.kno.upd hs8 (fun h=>(hd.2.2.2.2.2.2 _ h).2.1 rfl)).heap (far_heap hd.1)).mono (Nat.le_succ m)
    ·exact ((hg.fre.upd hs8 (fun h=>(hd.2.2.2.2.2.2 _ h).2.2.1 rfl)).heap (far_heap hd.2.1)).mono (Nat.le_succ m)
    ·obtain ⟨mf,hf⟩:=hg.fun_;refine ⟨mf,?_⟩;have h1:=hf.upd hs8 (fun h=>(hd.2.2.2.2.2.2 _ h).2.2.2 rfl);obtain ⟨kd,q1,q2⟩:=h1;exact ⟨kd,q1.heap (far_heap hd.2.2.1),q2⟩
    ·show (w8.setCell _ _).ownsRow _ _ 3 _ (c.ou ++ [(s,sc,sh)]).length ((c.ou ++ [(s,sc,sh)]).flatMap lbC);rw [List.length_append,List.flatMap_append];refine far_own ?_ fun h=>(hfn _ h).1 rfl
     simpa using hown
    ·intro b hb;rcases hb with h | h | h | h
     ·exact hg.low b (.inl h)
     ·exact hg.low b (.inr (.inl h))
     ·exact hg.low b (.inr (.inr (.inl h)))
     ·exact (Nm.own_atV hown b h).1
    ·show (c.ou ++ [_]).length≤m+1;rw [List.length_append];have h1:c.ou.length≤m:=hg.oub;show c.ou.length+1≤m+1;omega
    ·exact hg.bel.trans (hu.below (B:=w0.heap.size) hg.bel.size fun b hb=>hb.elim (fun h=>hg.low b (.inl h)) fun h=>hg.low b (.inr (.inr (.inr h))))
    ·rcases hat with h | h
     ·exact .inl h
     ·exact .inr ⟨_,Nat.le_trans HUz.out.size hb4.size,h⟩
    ·exact (HUz.out.mono fun b hb=>.inl hb).trans hu
   have HFIN:=Hi fin;clear fin;have HOC:=Hi (show c.ou.length≤1099511627776 from by omega);have hte:(sc && sh)=false:=by
    cases sc <;> cases sh <;> first | rfl | exact absurd ⟨rfl,rfl⟩ hbad2
   clear hbad2;cases sc with
   | false=>
    clear hte;go_upto_region 4 with fail
    have hwd:=HWD.out;clear d0 d1 d2 f0 f1 f2 HWD;refine HT.wp_region (Z:=fun w'=>Upd (fun b=>vl.ownBlock=some b∨b=G.g) wz w') (S:=fun w'=>Upd (fun b=>vl.ownBlock=some b) wz w') (st:=[10]) (by kernel_rfl) ?_;rw [hwd];clear hwd;refine HT.tm 0 rfl hZ0 (fun _=>hS0) ?_;refine HT.tm 1 rfl hZ0 (fun _=>hS0) ?_;refine HT.tm 2 rfl hZ0 (fun _=>hS0) ?_;refine HT.tm 3 rfl hZ0 (fun _=>hS0) ?_;refine HT.ts 4 rfl (by intro v hSw;have hG:=HGz.out.blk.upd hSw HGV.out;obtain ⟨c0,c1,c2,c3,c4,c5,c6⟩:=Blk.c7 hG;have hga:=hG.lt;clear hSw hG;go_simp;try with_reducible rfl) hZ0 hS0 ?_;refine HT.tk 5 rfl (by intro v hSw;have hA:=HLz.out.upd hSw HNL.out;obtain ⟨d0,d1,d2,f0,f1,f2⟩:=fst3 hA;have hga:=hA.lt;clear hSw hA;go_simp;try with_reducible rfl) hZ0 (fun _=>hS0) ?_;refine HT.one (i:=6) (by kernel_rfl) rfl (fun K hK=>?_);go_simp;(try rw [hw4]);(try dsimp only);refine hK.out _ _ hz4 hs4 ?_;clear hK K;(try simp only [HT.pS]);refine HT.one (i:=7) (by kernel_rfl) rfl (fun K hK=>?_);refine step_any rfl _ _ 31 rfl w0.heap.size 36 i0 (.agg #[.string ⟨#[]⟩,.bool false,.bool false]) 3 24 Tryz.underlying31 HI.out HZ0.out HZ1.out HZ2.out rfl (by decide) vl c.ou.length _ rfl ho4 (some ⟨wz.heap.size,0,none⟩) 1 1 (lbC (s,false,sh)) rfl rfl hL4 (by simp [lbC,Value.oneCell']) (by unfold maxLen;omega) (by omega) hlo4 ?_;intro v' w8 hown hgrow hat;obtain ⟨vA,vc,rfl⟩:=own_sl hown;have hs8:Upd (fun b=>vl.ownBlock=some b) wz w8:=hs4.grown hgrow fun b hb _=>hb
    have hz8:Upd (fun b=>vl.ownBlock=some b∨b=G.g) wz w8:=hs8.mono fun b hb=>.inl hb
    have HEND:=Hi (HFIN.out vA vc w8 hs8 hown hat);(try dsimp only);refine hK.out _ _ hz8 hs8 ?_;clear hK K;(try simp only [HT.pS]);refine HT.tm 8 rfl hz8 (fun _=>hs8) ?_;refine HT.tm 9 rfl hz8 (fun _=>hs8) ?_;have hG8:=HGz.out.blk.upd hs8 HGV.out;obtain ⟨c0,c1,c2,c3,c4,c5,c6⟩:=Blk.c7 hG8;have fz:=hG8.frozen 2;have hg8:=hG8.lt;refine HT.oneS (i:=10) (by kernel_rfl) (by kernel_rfl) rfl (fun K hK=>?_);go_simp;refine hK.out _ _ (hz8.setCell (p:=⟨G.g,2,none⟩) (fun _=>.inr rfl) _) ?_;clear hK K;(try simp only [HT.pS]);refine HT.done (by kernel_rfl) ?_;clear hown hat hgrow hs8 hz8 hG8 hz4 hs4 hw4 hb4 hL4 ho4 c0 c1 c2 c3 c4 c5 c6 fz hg8 hZ0 hS0;go_wp2_with fail
    first | go_end0 | skip
    all_goals first | exact HEND.out | exact bodyPost_ret (results_none rfl _ _ _) rfl HEND.out
   | true=>
    have hsh2:sh=false:=by simpa using hte
    subst hsh2;clear hte;go_upto_region 4 with fail
    have hwd:=HWD.out;clear d0 d1 d2 f0 f1 f2 HWD;refine HT.wp_region (Z:=fun w'=>Upd (fun b=>vl.ownBlock=some b∨b=G.g) wz w') (S:=fun w'=>Upd (fun b=>vl.ownBlock=some b) wz w') (st:=[10]) (by kernel_rfl) ?_;rw [hwd];clear hwd;refine HT.tm 0 rfl hZ0 (fun _=>hS0) ?_;refine HT.tm 1 rfl hZ0 (fun _=>hS0) ?_;refine HT.tm 2 rfl hZ0 (fun _=>hS0) ?_;refine HT.tm 3 rfl hZ0 (fun _=>hS0) ?_;refine HT.ts 4 rfl (by intro v hSw;have hG:=HGz.out.blk.upd hSw HGV.out;obtain ⟨c0,c1,c2,c3,c4,c5,c6⟩:=Blk.c7 hG;have hga:=hG.lt;clear hSw hG;go_simp;try with_reducible rfl) hZ0 hS0 ?_;refine HT.tk 5 rfl (by intro v hSw;have hA:=HLz.out.upd hSw HNL.out;obtain ⟨d0,d1,d2,f0,f1,f2⟩:=fst3 hA;have hga:=hA.lt;clear hSw hA;go_simp;try with_reducible rfl) hZ0 (fun _=>hS0) ?_;refine HT.one (i:=6) (by kernel_rfl) rfl (fun K hK=>?_);go_simp;(try rw [hw4]);(try dsimp only);refine hK.out _ _ hz4 hs4 ?_;clear hK K;(try simp only [HT.pS]);refine HT.one (i:=7) (by kernel_rfl) rfl (fun K hK=>?_);refine step_any rfl _ _ 31 rfl w0.heap.size 36 i0 (.agg #[.string ⟨#[]⟩,.bool false,.bool false]) 3 24 Tryz.underlying31 HI.out HZ0.out HZ1.out HZ2.out rfl (by decide) vl c.ou.length _ rfl ho4 (some ⟨wz.heap.size,0,none⟩) 1 1 (lbC (s,true,false)) rfl rfl hL4 (by simp [lbC,Value.oneCell']) (by unfold maxLen;omega) (by omega) hlo4 ?_;intro v' w8 hown hgrow hat;obtain ⟨vA,vc,rfl⟩:=own_sl hown;have hs8:Upd (fun b=>vl.ownBlock=some b) wz w8:=hs4.grown hgrow fun b hb _=>hb
    have hz8:Upd (fun b=>vl.ownBlock=some b∨b=G.g) wz w8:=hs8.mono fun b hb=>.inl hb
    have HEND:=Hi (HFIN.out vA vc w8 hs8 hown hat);(try dsimp only);refine hK.out _ _ hz8 hs8 ?_;clear hK K;(try simp only [HT.pS]);refine HT.tm 8 rfl hz8 (fun _=>hs8) ?_;refine HT.tm 9 rfl hz8 (fun _=>hs8) ?_;have hG8:=HGz.out.blk.upd hs8 HGV.out;obtain ⟨c0,c1,c2,c3,c4,c5,c6⟩:=Blk.c7 hG8;have fz:=hG8.frozen 2;have hg8:=hG8.lt;refine HT.oneS (i:=10) (by kernel_rfl) (by kernel_rfl) rfl (fun K hK=>?_);go_simp;refine hK.out _ _ (hz8.setCell (p:=⟨G.g,2,none⟩) (fun _=>.inr rfl) _) ?_;clear hK K;(try simp only [HT.pS]);refine HT.done (by kernel_rfl) ?_;clear hown hat hgrow hs8 hz8 hG8 hz4 hs4 hw4 hb4 hL4 ho4 c0 c1 c2 c3 c4 c5 c6 fz hg8 hZ0 hS0;go_wp2_with fail
    first | go_end0 | skip
    all_goals first | exact HEND.out | exact bodyPost_ret (results_none rfl _ _ _) rfl HEND.out
end Go.Proofs.YtbbpfjlnncpohaaGreatDoor.Fl
