/- DERIVED. FlStm, FlLn, FlNz. By an AI agent. -/
import Derived.Test.YtdhoemlomojfaaaGreatDoorW01
import Derived.Test.YtdhoemlomojfaaaGreatDoorW03
import Derived.Test.YtdhoemlomojfaaaGreatDoorW24
import Derived.Test.YtdhoemlomojfaaaGreatDoorW16
import Derived.Test.YtdhoemlomojfaaaGreatDoorW22
import Derived.Test.YtdhoemlomojfaaaGreatDoorW09
set_option maxRecDepth 100000
set_option maxHeartbeats 16000000
set_option linter.unusedVariables false
set_option linter.unusedSimpArgs false
namespace Go.Proofs.YtdhoemlomojfaaaGreatDoor.Fl
open Go Go.ChangeShapes Go.WideShapes Go.ChangeAt Go.RowKit Lx Args Pa Sh Go.Proofs.YtdhoemlomojfaaaGreatDoor.Nm
theorem xT_mk(fu:Fu)(k a:Int)(s:Bs)(n:Nat)(ps:List Bs)(l:List Tz)(c:Sf):xT fu (.mk k a s n ps l) c =
  if k = 6∨k = 7 then .ok { c with kn:=putsB c.kn (decide (k = 6)) ps }
  else if k = 10 then bndF (hdB l c.nd (xC fu 61 c.kn)) fun q=>.ok { c with nd:=q.2,kn:=c.kn.put s ⟨q.1,none⟩ }
  else if k = 8∨k = 9 then outR fu k a s l c
  else if k = 11 then lpR fu a s l c
  else .ok c:=by
 conv=>lhs;unfold xT sfT
 rfl
theorem SP.from{w0 w w1 w':World}{G:Gx}{vl:Value}{fu:Fu}{k0:Kw}{m rd0 cost cost':Nat}{r:Rf Sf}{e:Ending}(h:SP w0 w1 G vl fu k0 m rd0 cost r e w')(hu:Below w.heap.size w w1)(hc:cost≤cost'):SP w0 w G vl fu k0 m rd0 cost' r e w':=by
 cases r with
 | ok c=>
  obtain ⟨h1,vl',fm',m',h2,h3,h4,h5,h6⟩:=h;refine ⟨h1,vl',fm',m',h2,?_,(Upd.of_below hu _).trans h4,by omega,h6⟩;rcases h3 with h | ⟨n,h3,h7⟩
  ·exact .inl h
  ·exact .inr ⟨n,Nat.le_trans hu.size h3,h7⟩
 | bad a er=>exact ⟨h.1,(Upd.of_below hu _).trans h.2⟩
theorem statement_{w0:World}{fu:Fu}(k1 a1:Int)(s1:Bs)(n1:Nat)(ps:List Bs)(l:List Tz)(H:∀ y∈l,StAt w0 fu y):StAt w0 fu (.mk k1 a1 s1 n1 ps l):=by
 intro w G vl k0 c fm m k a s n A la cA B lb cB hG hk hm hT hok;have hT0:=hT;obtain ⟨rfl,rfl,rfl,rfl,rfl,rfl,hP,hs,-,hLB,hps,-,-⟩:=hT.parts;obtain ⟨wn,hwn,hbn,hXn,hsn⟩:=a_box w (nB k a s n A l.length cA B ps.length cB);obtain ⟨⟨e0,e1,e2,e3,e4,e5⟩,z0,z1,z2,z3,z4,z5⟩:=Blk.c6 hXn;obtain ⟨hok1,hok2⟩:=okS_parts hok;have hnb:nbz (.mk k a s n ps l)=ps.length+1+nbzs l:=rfl;have HG0:=Hi hG;have HG:=Hi (hG.below hbn);have HXN:=Hi hXn;have HBN:=Hi hbn;have HSN:=Hi hsn;have HW:=Hi hwn;have HTZ:=Hi hT0;have HS:=Hi hs;have HPS:=Hi hps;have HOK1:=Hi hok1;have HOK2:=Hi hok2;have HH:=Hi H;have HK:=Hi hk;have HM:=Hi hm;have HNB:=Hi hnb;have HRD:=Hi hG.rdb;have hgn:=hXn.lt;have hpl:ps.length≤9223372036854775807:=by omega
 have HLB:=Hi hLB;have hLo:=HG.out.low (G.g) (.inl rfl);obtain ⟨res,hres⟩:∃ res,xT fu (.mk k a s n ps l) c=res:=⟨_,rfl⟩;rw [hres];rw [xT_mk] at hres;have HRES:=Hi hres;obtain ⟨cost,hcost⟩:∃ cost,nbz (.mk k a s n ps l)=cost:=⟨_,rfl⟩;have HCOST:=Hi hcost;rw [hcost] at HK HM HNB ⊢;have HLW:=Hi (show ∀ b,ow G vl b→b < w.heap.size from hG.lt);clear hG hk hm hT hT0 hok hok1 hok2 hnb hwn hbn hXn hsn hP hs hps hLB H hres hLo hcost;go_enter Tryz.func59,Tryz.ntmps59;go_upto_region 1 with fail
 rw [HW.out];by_cases hk67:k = 6∨k = 7
 ·have HR:=Hi (show Rf.ok { c with kn:=putsB c.kn (decide (k = 6)) ps }=res from by rw [←HRES.out,if_pos hk67]);obtain ⟨b6,hb6⟩:∃ b6,decide (k = 6)=b6:=⟨_,rfl⟩;have hkb:(k==6)=b6:=by rw [←hb6,Bool.eq_iff_iff];simp
  rw [hb6] at HR;have h67:k = 6∧b6=true∨k = 7∧b6=false:=by
   rcases hk67 with h | h
   ·exact .inl ⟨h,by rw [←hb6,h];rfl⟩
   ·exact .inr ⟨h,by rw [←hb6,h];rfl⟩
  clear HRES hb6 hk67 hkb;rcases h67 with ⟨rfl,rfl⟩ | ⟨rfl,rfl⟩
  ·go_wp2_with fail
   go_loopw [14] (fun vi wr=>∃ (i:Nat) (kni:Kw) (fmi:Kw),i≤ps.length∧vi = .int .i64 (i:Int)∧Hid (CG w0 wr G vl fu k0 { c with kn:=kni } fmi (m+i))∧Hid (Blk wr w.heap.size 62 (nB 6 a s n A l.length cA B ps.length cB))∧Hid (Upd (ow G vl) w wr)∧Hid (putsB kni true (ps.drop i)=putsB c.kn true ps)) (fun vi _=>ps.length - (intOf vi).toNat)
   case atStart=>exact ⟨0,c.kn,fm,by omega,rfl,HG,HXN,Hi (Upd.of_below HBN.out _),Hi rfl⟩
   case round=>
    obtain ⟨i,kni,fmi,hi,rfl,HGr,HXr,HUr,HQ⟩:=hrel;clear e0 e1 e2 e3 e4 e5 z0 z1 z2 z3 z4 z5;by_cases hlt:i < ps.length
    ·have hil:(i:Int) < (ps.length:Int):=by omega
     obtain ⟨p,hp⟩:∃ p,ps[i]?=some p:=⟨_,List.getElem?_eq_getElem hlt⟩;have f1:(ps.map strV)[i]?=some (.string ⟨p.toArray⟩):=by rw [List.getElem?_map,hp];rfl
     obtain ⟨b9,o9,hB9,hb9,hc9⟩:=(HLB.out.below HGr.out.bel).at_ f1;subst hB9;have g1:=hc9 _ _ f1;obtain ⟨⟨e0,e1,e2,e3,e4,e5⟩,z0,z1,z2,z3,z4,z5⟩:=Blk.c6 HXr.out;have hgx:=HXr.out.lt;have hq:=HQ.out;rw [drop_at hp] at hq
     conv at hq=>lhs;unfold putsB
     have HQ2:=Hi hq;have hmm:=HM.out;have hnb:=HNB.out;have hrd:=HRD.out;have HST:=Hi (set_ wr G vl fu k0 { c with kn:=kni } fmi (m+i) HGr.out (by unfold maxLen;omega) p (HPS.out p (List.mem_of_getElem? hp)) ⟨true,none⟩);clear hp f1 hc9 hq hmm hnb hrd;go_wp2_with fail
     refine (show Calls Tryz.prog 75 #[.pointer (some ⟨G.g,0,none⟩),.string ⟨p.toArray⟩,.agg #[.bool true,.bool false,.int .u32 0]] wr _ from HST.out).mono ?_;rintro e w4 ⟨rfl,fm4,hG4,hu4⟩;have H1:=Hi hG4;have H2:=Hi (HXr.out.upd hu4 (fun h=>by
      have h1:=HLW.out G.kb (.inr (.inl rfl));have h2:=HLW.out G.rb (.inr (.inr (.inl rfl)));rcases h with h | h <;> omega));have H3:=Hi (HUr.out.trans (hu4.mono fun b hb=>hb.elim (fun h=>.inr (.inl h)) fun h=>.inr (.inr (.inl h))))
     clear hG4 hu4;go_wp2_with fail
     go_roundw
     case rel=>exact ⟨i+1,kni.put p ⟨true,none⟩,fm4,by omega,by go_num,H1,H2,H3,HQ2⟩
     case measure=>simp [intOf];omega
    ·obtain rfl:i=ps.length:=by omega
     have hq:=HQ.out;rw [List.drop_length] at hq
     conv at hq=>lhs;unfold putsB
     have HEND:=Hi (show SP w0 w G vl fu k0 m c.rd cost res (.returned (.tuple #[])) wr from by
      rw [←HR.out];have hG9:=HGr.out;rw [show kni=putsB c.kn true ps from hq] at hG9;have hnb:=HNB.out;exact ⟨rfl,vl,fmi,m+ps.length,hG9,Nw.refl _ _,HUr.out,by show m+ps.length+c.rd * 134217728≤m+cost+c.rd * 134217728;omega,Nat.le_refl _⟩)
     clear hq;go_wp2_with fail
     first | go_end0 | skip
     all_goals first | exact HEND.out | exact bodyPost_ret (results_none rfl _ _ _) rfl HEND.out
  ·go_wp2_with fail
   go_loopw [14] (fun vi wr=>∃ (i:Nat) (kni:Kw) (fmi:Kw),i≤ps.length∧vi = .int .i64 (i:Int)∧Hid (CG w0 wr G vl fu k0 { c with kn:=kni } fmi (m+i))∧Hid (Blk wr w.heap.size 62 (nB 7 a s n A l.length cA B ps.length cB))∧Hid (Upd (ow G vl) w wr)∧Hid (putsB kni false (ps.drop i)=putsB c.kn false ps)) (fun vi _=>ps.length - (intOf vi).toNat)
   case atStart=>exact ⟨0,c.kn,fm,by omega,rfl,HG,HXN,Hi (Upd.of_below HBN.out _),Hi rfl⟩
   case round=>
    obtain ⟨i,kni,fmi,hi,rfl,HGr,HXr,HUr,HQ⟩:=hrel;clear e0 e1 e2 e3 e4 e5 z0 z1 z2 z3 z4 z5;by_cases hlt:i < ps.length
    ·have hil:(i:Int) < (ps.length:Int):=by omega
     obtain ⟨p,hp⟩:∃ p,ps[i]?=some p:=⟨_,List.getElem?_eq_getElem hlt⟩;have f1:(ps.map strV)[i]?=some (.string ⟨p.toArray⟩):=by rw [List.getElem?_map,hp];rfl
     obtain ⟨b9,o9,hB9,hb9,hc9⟩:=(HLB.out.below HGr.out.bel).at_ f1;subst hB9;have g1:=hc9 _ _ f1;obtain ⟨⟨e0,e1,e2,e3,e4,e5⟩,z0,z1,z2,z3,z4,z5⟩:=Blk.c6 HXr.out;have hgx:=HXr.out.lt;have hq:=HQ.out;rw [drop_at hp] at hq
     conv at hq=>lhs;unfold putsB
     have HQ2:=Hi hq;have hmm:=HM.out;have hnb:=HNB.out;have hrd:=HRD.out;have HST:=Hi (set_ wr G vl fu k0 { c with kn:=kni } fmi (m+i) HGr.out (by unfold maxLen;omega) p (HPS.out p (List.mem_of_getElem? hp)) ⟨false,none⟩);clear hp f1 hc9 hq hmm hnb hrd;go_wp2_with fail
     refine (show Calls Tryz.prog 75 #[.pointer (some ⟨G.g,0,none⟩),.string ⟨p.toArray⟩,.agg #[.bool false,.bool false,.int .u32 0]] wr _ from HST.out).mono ?_;rintro e w4 ⟨rfl,fm4,hG4,hu4⟩;have H1:=Hi hG4;have H2:=Hi (HXr.out.upd hu4 (fun h=>by
      have h1:=HLW.out G.kb (.inr (.inl rfl));have h2:=HLW.out G.rb (.inr (.inr (.inl rfl)));rcases h with h | h <;> omega));have H3:=Hi (HUr.out.trans (hu4.mono fun b hb=>hb.elim (fun h=>.inr (.inl h)) fun h=>.inr (.inr (.inl h))))
     clear hG4 hu4;go_wp2_with fail
     go_roundw
     case rel=>exact ⟨i+1,kni.put p ⟨false,none⟩,fm4,by omega,by go_num,H1,H2,H3,HQ2⟩
     case measure=>simp [intOf];omega
    ·obtain rfl:i=ps.length:=by omega
     have hq:=HQ.out;rw [List.drop_length] at hq
     conv at hq=>lhs;unfold putsB
     have HEND:=Hi (show SP w0 w G vl fu k0 m c.rd cost res (.returned (.tuple #[])) wr from by
      rw [←HR.out];have hG9:=HGr.out;rw [show kni=putsB c.kn false ps from hq] at hG9;have hnb:=HNB.out;exact ⟨rfl,vl,fmi,m+ps.length,hG9,Nw.refl _ _,HUr.out,by show m+ps.length+c.rd * 134217728≤m+cost+c.rd * 134217728;omega,Nat.le_refl _⟩)
     clear hq;go_wp2_with fail
     first | go_end0 | skip
     all_goals first | exact HEND.out | exact bodyPost_ret (results_none rfl _ _ _) rfl HEND.out
 have i6:(k==6)=false:=by simp;omega
 have i7:(k==7)=false:=by simp;omega
 by_cases hk10:k = 10
 ·subst hk10;have hr:(bndF (hdB l c.nd (xC fu 61 c.kn)) fun q=>Rf.ok { c with nd:=q.2,kn:=c.kn.put s ⟨q.1,none⟩ })=res:=by rw [←HRES.out,if_neg hk67,if_pos rfl]
  have hdr:Below wn.heap.size wn wn.drew:=Below.drew (Below.refl _ _);obtain ⟨wd,hwd⟩:∃ u,wn.drew=u:=⟨_,rfl⟩;rw [hwd] at hdr;have HGd:=Hi (HG.out.below hdr);have HXd:=Hi (HXN.out.below hdr HXN.out.lt);have HUd:=Hi (Upd.of_below (HBN.out.trans (hdr.mono HBN.out.size)) (ow G vl));have HNX:=Hi (show ¬ ow G vl w.heap.size from fun h=>by have:=HLW.out _ h;omega);have HV:=Hi (value_ wd G vl fu k0 c fm m HGd.out ps l 10 a s n A l.length cA B ps.length cB HTZ.out (HOK1.out (by omega)));obtain ⟨rv,hrv⟩:∃ rv,hdB l c.nd (xC fu 61 c.kn)=rv:=⟨_,rfl⟩;rw [hrv] at hr HV;have HR:=Hi hr;have HWD:=Hi hwd;clear hr hrv hdr hwd HRES hk67;go_upto_region 10 with fail
  have hwd:=HWD.out;clear e0 e1 e2 e3 e4 e5 z0 z1 z2 z3 z4 z5 HWD;have hZ0:Upd (ow G vl) wd wd:=Upd.refl _ _;refine HT.wp_region (Z:=fun w'=>Upd (ow G vl) wd w') (S:=fun _=>True) (st:=[]) (by kernel_rfl) ?_;rw [hwd];clear hwd;refine HT.tm 0 rfl hZ0 HT.tr ?_;refine HT.tk 1 rfl (by intro v hSw;have hA:=HXd.out.upd hSw HNX.out;have E_:=Blk.c6 hA;have hga:=hA.lt;clear hSw hA;go_simp;try with_reducible rfl) hZ0 HT.tr ?_;refine HT.tk 2 rfl (by intro v hSw;have hA:=HXd.out.upd hSw HNX.out;have E_:=Blk.c6 hA;have hga:=hA.lt;clear hSw hA;go_simp;try with_reducible rfl) hZ0 HT.tr ?_;refine HT.tm 3 rfl hZ0 HT.tr ?_;refine HT.tk 4 rfl (by intro v hSw;have hA:=HXd.out.upd hSw HNX.out;have E_:=Blk.c6 hA;have hga:=hA.lt;clear hSw hA;go_simp;try with_reducible rfl) hZ0 HT.tr ?_;refine HT.one (i:=5) (by kernel_rfl) rfl (fun K hK=>?_);go_simp;refine (show Calls Tryz.prog 76 #[.pointer (some ⟨G.g,0,none⟩),nzA 10 a s n A l.length cA B ps.length cB] wd _ from HV.out).mono ?_;intro e w4 h4;cases rv with
  | bad a2 er2=>
   obtain ⟨rfl,hu4⟩:=h4;have HEND:=Hi (show SP w0 w G vl fu k0 m c.rd cost res (panF a2 er2) w4 from by
    rw [←show Rf.bad a2 er2=res from HR.out];exact ⟨rfl,HUd.out.trans (hu4.mono fun b hb=>.inl hb)⟩)
   exact ⟨rfl,HEND.out⟩
  | ok q=>
   obtain ⟨b2,nd2⟩:=q;obtain ⟨rfl,hG4,hu4⟩:=h4;have hz4:Upd (ow G vl) wd w4:=hu4.mono fun b hb=>.inl hb
   have hmm:=HM.out;have hrd:=HRD.out;have hnb:=HNB.out;have HST:=Hi (set_ w4 G vl fu k0 { c with nd:=nd2 } fm m hG4 (by unfold maxLen;omega) s HS.out ⟨b2,none⟩);clear hmm hrd hnb;(try dsimp only);refine hK.out _ _ hz4 trivial ?_;clear hK K;(try simp only [HT.pS]);refine HT.tm 6 rfl hz4 HT.tr ?_;refine HT.one (i:=7) (by kernel_rfl) rfl (fun K hK=>?_);go_simp;refine (show Calls Tryz.prog 75 #[.pointer (some ⟨G.g,0,none⟩),.string ⟨s.toArray⟩,.agg #[.bool b2,.bool false,.int .u32 0]] w4 _ from HST.out).mono ?_;rintro e w5 ⟨rfl,fm5,hG5,hu5⟩;have hz5:Upd (ow G vl) wd w5:=hz4.trans (hu5.mono fun b hb=>hb.elim (fun h=>.inr (.inl h)) fun h=>.inr (.inr (.inl h)));have HEND:=Hi (show SP w0 w G vl fu k0 m c.rd cost res (.returned (.tuple #[])) w5 from by
    rw [←show Rf.ok { c with nd:=nd2,kn:=c.kn.put s ⟨b2,none⟩ }=res from HR.out];have hnb:=HNB.out;exact ⟨rfl,vl,fm5,m+1,hG5,Nw.refl _ _,HUd.out.trans hz5,by show m+1+c.rd * 134217728≤m+cost+c.rd * 134217728;omega,Nat.le_refl _⟩)
   (try dsimp only);refine hK.out _ _ hz5 trivial ?_;clear hK K;(try simp only [HT.pS]);refine HT.done (by kernel_rfl) ?_;clear hZ0 hz4 hz5 hG4 hu4 hG5 hu5;go_wp2_with fail
   first | go_end0 | skip
   all_goals first | exact HEND.out | exact bodyPost_ret (results_none rfl _ _ _) rfl HEND.out
 have i10:(k==10)=false:=by simpa using hk10
 by_cases hk89:k = 8∨k = 9
 ·have hr:outR fu k a s l c=res:=by rw [←HRES.out,if_neg hk67,if_neg hk10,if_pos hk89]
  have hmm:=HM.out;have hrd:=HRD.out;have HO:=Hi (output_ wn G vl fu k0 c fm m HG.out (by omega) ps l k a s n A l.length cA B ps.length cB HTZ.out (HOK1.out (by omega)));have HRDQ:=Hi (show ∀ d,res = .ok d→d.rd=c.rd from fun d h=>by
   rw [←hr] at h;unfold outR at h;cases hv:hdB l c.nd (xC fu 61 c.kn) with
   | bad a e=>rw [hv] at h;cases h
   | ok q=>
    rw [hv] at h;have h':(if q.1=true∧k = 9 then Rf.bad a 130 else .ok { c with nd:=q.2,ou:=c.ou ++ [(s,q.1,decide (k = 9))] }) = .ok d:=h;by_cases hb:q.1=true∧k = 9
    ·rw [if_pos hb] at h';cases h'
    ·rw [if_neg hb] at h';cases h';rfl)
  rw [hr] at HO;clear hr hmm hrd HRES hk67;rcases hk89 with rfl | rfl
  ·go_wp2_with fail
   refine (show Calls Tryz.prog 77 #[.pointer (some ⟨G.g,0,none⟩),nzA 8 a s n A l.length cA B ps.length cB] wn _ from HO.out).mono ?_;intro e w4 h4;cases res with
   | bad a2 er2=>
    obtain ⟨rfl,hu4⟩:=h4;have HEND:=Hi (show SP w0 w G vl fu k0 m c.rd cost (.bad a2 er2) (panF a2 er2) w4 from ⟨rfl,(Upd.of_below HBN.out _).trans (hu4.mono fun b hb=>hb.elim .inl fun h=>.inr (.inr (.inr h)))⟩);clear hu4;go_wp2_with fail
    exact ⟨rfl,HEND.out⟩
   | ok d=>
    obtain ⟨rfl,vl4,hG4,hn4,hu4⟩:=h4;have HEND:=Hi (show SP w0 w G vl fu k0 m c.rd cost (.ok d) (.returned (.tuple #[])) w4 from by
     have hnb:=HNB.out;have hrd:d.rd=c.rd:=HRDQ.out d rfl;refine ⟨rfl,vl4,fm,m+1,hG4,?_,(Upd.of_below HBN.out _).trans (hu4.mono fun b hb=>hb.elim .inl fun h=>.inr (.inr (.inr h))),by rw [hrd];omega,by rw [hrd];exact Nat.le_refl _⟩;rcases hn4 with h | ⟨n,h3,h7⟩
     ·exact .inl h
     ·exact .inr ⟨n,Nat.le_trans HBN.out.size h3,h7⟩)
    clear hG4 hn4 hu4;go_wp2_with fail
    first | go_end0 | skip
    all_goals first | exact HEND.out | exact bodyPost_ret (results_none rfl _ _ _) rfl HEND.out
  ·go_wp2_with fail
   refine (show Calls Tryz.prog 77 #[.pointer (some ⟨G.g,0,none⟩),nzA 9 a s n A l.length cA B ps.length cB] wn _ from HO.out).mono ?_;intro e w4 h4;cases res with
   | bad a2 er2=>
    obtain ⟨rfl,hu4⟩:=h4;have HEND:=Hi (show SP w0 w G vl fu k0 m c.rd cost (.bad a2 er2) (panF a2 er2) w4 from ⟨rfl,(Upd.of_below HBN.out _).trans (hu4.mono fun b hb=>hb.elim .inl fun h=>.inr (.inr (.inr h)))⟩);clear hu4;go_wp2_with fail
    exact ⟨rfl,HEND.out⟩
   | ok d=>
    obtain ⟨rfl,vl4,hG4,hn4,hu4⟩:=h4;have HEND:=Hi (show SP w0 w G vl fu k0 m c.rd cost (.ok d) (.returned (.tuple #[])) w4 from by
     have hnb:=HNB.out;have hrd:d.rd=c.rd:=HRDQ.out d rfl;refine ⟨rfl,vl4,fm,m+1,hG4,?_,(Upd.of_below HBN.out _).trans (hu4.mono fun b hb=>hb.elim .inl fun h=>.inr (.inr (.inr h))),by rw [hrd];omega,by rw [hrd];exact Nat.le_refl _⟩;rcases hn4 with h | ⟨n,h3,h7⟩
     ·exact .inl h
     ·exact .inr ⟨n,Nat.le_trans HBN.out.size h3,h7⟩)
    clear hG4 hn4 hu4;go_wp2_with fail
    first | go_end0 | skip
    all_goals first | exact HEND.out | exact bodyPost_ret (results_none rfl _ _ _) rfl HEND.out
 have i8:(k==8)=false:=by simp;omega
 have i9:(k==9)=false:=by simp;omega
 by_cases hk11:k = 11
 ·subst hk11;have hr:lpR fu a s l c=res:=by rw [←HRES.out,if_neg hk67,if_neg hk10,if_neg hk89,if_pos rfl]
  have HLO:=Hi (loop_ ps l HH.out wn G vl k0 c fm m 11 a s n A l.length cA B ps.length cB HG.out (by rw [HCOST.out];exact HK.out) (by rw [HCOST.out];exact HM.out) HTZ.out (HOK2.out rfl));rw [hr,HCOST.out] at HLO;clear hr HRES hk67;go_wp2_with fail
  refine (show Calls Tryz.prog 78 #[.pointer (some ⟨G.g,0,none⟩),nzA 11 a s n A l.length cA B ps.length cB] wn _ from HLO.out).mono ?_;intro e w4 h4;have h4':=SP.from h4 HBN.out (Nat.le_refl cost);clear h4;have HEND:=Hi h4';cases res with
  | bad a2 er2=>
   obtain ⟨rfl,hu4⟩:=h4';clear hu4;go_wp2_with fail
   exact ⟨rfl,HEND.out⟩
  | ok d=>
   obtain ⟨rfl,_⟩:=h4';go_wp2_with fail
   first | go_end0 | skip
   all_goals first | exact HEND.out | exact bodyPost_ret (results_none rfl _ _ _) rfl HEND.out
 have i11:(k==11)=false:=by simpa using hk11
 have HEND:=Hi (show SP w0 w G vl fu k0 m c.rd cost res (.returned (.tuple #[])) wn from by
  rw [←show Rf.ok c=res from by rw [←HRES.out,if_neg hk67,if_neg hk10,if_neg hk89,if_neg hk11]];exact ⟨rfl,vl,fm,m,HG.out,Nw.refl _ _,Upd.of_below HBN.out _,by omega,Nat.le_refl _⟩)
 clear hk67 hk10 hk89 hk11 HRES;go_wp2_with fail
 first | go_end0 | skip
 all_goals first | exact HEND.out | exact bodyPost_ret (results_none rfl _ _ _) rfl HEND.out
theorem st_all{w0:World}{fu:Fu}:∀ (m:Nat) (z:Tz),SizeOf.sizeOf z < m→StAt w0 fu z
 | 0,z,h=>absurd h (Nat.not_lt_zero _)
 | m+1,.mk k a s n ps l,h=>statement_ k a s n ps l fun y hy=>st_all m y (by have:=size_mem2 (k:=k) (a:=a) (n:=n) (s:=s) (ps:=ps) hy;omega)
def LnP(w0 w:World)(fb m:Nat)(fu:Fu)(e:Ending)(w':World):Prop:=e = .returned (.tuple #[])∧FuM w0 w' fb m fu∧Upd (fun b=>b=fb) w w'
def LnAt(w0:World)(l:List Tz):Prop:=
 ∀ (w:World) (g fb m:Nat) (fu:Fu) (A:Option Addr) (cA:Nat) (bx:Array Value),Below w0.heap.size w0 w→w0.heap.size≤fb→fb≠g→FuM w0 w fb m fu→m+nbzs l≤134217728→Blk w g 97 bx→bx[1]?=some (.map (some fb))→Pts w0 A cA l →
  Calls Tryz.prog 49 #[.pointer (some ⟨g,0,none⟩),.slice A l.length cA] w (LnP w0 w fb (m+nbzs l) (lnTs 0 l fu))
theorem lnTs_cons(x:Tz)(l:List Tz)(fu:Fu):lnTs 0 (x :: l) fu=lnTs 0 l (lnT x fu):=by conv=>lhs;unfold lnTs
theorem lnTs_nil(i:Nat)(fu:Fu):lnTs i [] fu=fu:=by cases i <;> (unfold lnTs;rfl)
theorem lnTs_drop:∀ (i:Nat) (l:List Tz) (fu:Fu),lnTs i l fu=lnTs 0 (l.drop i) fu
 | 0,l,fu=>rfl
 | i+1,[],fu=>by rw [lnTs_nil];simp [lnTs_nil]
 | i+1,x :: l,fu=>by
  rw [List.drop_succ_cons,←lnTs_drop i l fu]
  conv=>lhs;unfold lnTs
theorem lnT_mk(k a:Int)(s:Bs)(n:Nat)(ps:List Bs)(l:List Tz)(fu:Fu):lnT (.mk k a s n ps l) fu=if k = 12 then (fun t=>if t=s then some (ps,l) else fu t) else if k = 11 then lnTs 2 l fu else fu:=by conv=>lhs;unfold lnT
theorem nbzs_le_drop':∀ (i:Nat) (l:List Tz),nbzs (l.drop i)≤nbzs l
 | 0,l=>Nat.le_refl _
 | i+1,[]=>by simp
 | i+1,x :: l=>by
  rw [List.drop_succ_cons];have:=nbzs_le_drop' i l;show nbzs (l.drop i)≤nbz x+nbzs l;omega
theorem learn_{w0:World}(l:List Tz)(H:∀ y∈l,LnAt w0 ((lz y).drop 2)):LnAt w0 l:=by
 intro w g fb m fu A cA bx hb0 hfb hne hF hm hB hbx hP;have hlm:l.length≤9223372036854775807:=Nat.le_trans hP.le hP.cap;have HH:=Hi H;have HP:=Hi hP;have HF:=Hi hF;have HB:=Hi hB;have HB0:=Hi hb0;have HM:=Hi hm;have HFB:=Hi hfb;have HNE:=Hi hne;have HBX:=Hi hbx;obtain ⟨res,hres⟩:∃ res,lnTs 0 l fu=res:=⟨_,rfl⟩;rw [hres];have HRES:=Hi hres;clear H hP hF hB hb0 hm hres hfb hne hbx;go_enter Tryz.func49,Tryz.ntmps49;go_wp2_with fail
 go_loopw [10] (fun vi wr=>∃ (i:Nat) (fi:Fu) (mi:Nat),i≤l.length∧vi = .int .i64 (i:Int)∧Hid (FuM w0 wr fb mi fi)∧Hid (Upd (fun b=>b=fb) w wr)∧Hid (mi+nbzs (l.drop i)≤m+nbzs l)∧Hid (lnTs 0 (l.drop i) fi=res)) (fun vi _=>l.length - (intOf vi).toNat)
 case atStart=>exact ⟨0,fu,m,by omega,rfl,HF,Hi (Upd.refl _ _),Hi (Nat.le_refl _),HRES⟩
 case round=>
  obtain ⟨i,fi,mi,hi,rfl,HFi,HU,HMI,HQ⟩:=hrel;have HBr:=Hi (HB.out.upd HU.out (fun h=>HNE.out h.symm));have HB0r:=Hi (HB0.out.trans (HU.out.below (B:=w0.heap.size) HB0.out.size fun b hb=>hb ▸ HFB.out));by_cases hlt:i < l.length
  ·have hil:(i:Int) < (l.length:Int):=by omega
   obtain ⟨y,hy⟩:∃ y,l[i]?=some y:=⟨_,List.getElem?_eq_getElem hlt⟩;obtain ⟨bb,o,k',a',s',n',A',la',cA',B',lb',cB',hA,hTy,hbl,g0',g1,g2,g3,g4,g5⟩:=HP.out.at_ HB0r.out hy;subst hA;obtain ⟨wb,hwb,hbb,hXb,hsb⟩:=a_box wr (nB k' a' s' n' A' la' cA' B' lb' cB');have hnb:=nbzs_drop hy;have hq:=HQ.out;rw [drop_at hy,lnTs_cons] at hq;have hyl:=List.mem_of_getElem? hy;obtain ⟨ky,ay,sy,ny,py,ly⟩:=y;have hT0:=hTy;obtain ⟨rfl,rfl,rfl,rfl,rfl,rfl,hPy,hsy,-,-,hpy,-,-⟩:=hTy.parts;rw [lnT_mk] at hq;have hnz:nbz (.mk k' a' s' n' py ly)=py.length+1+nbzs ly:=rfl;have hb1:=HMI.out;have hmm:=HM.out;have hmi:mi+nbz (.mk k' a' s' n' py ly)+nbzs (l.drop (i+1))≤m+nbzs l:=by omega
   have HMI2:=Hi hmi;have HNZ:=Hi hnz;obtain ⟨⟨e0,e1,e2,e3,e4,e5⟩,z0,z1,z2,z3,z4,z5⟩:=Blk.c6 hXb;have hgx:=hXb.lt;have HWB:=Hi hwb;have HQ2:=Hi hq;have HUB:=Hi (HU.out.trans (Upd.of_below hbb _));have HBB:=Hi hbb;have HXB:=Hi hXb;have hbl2:bb < wr.heap.size:=Nat.lt_of_lt_of_le hbl HB0r.out.size;have HT0:=Hi hT0;have HPY:=Hi hPy;have HSY:=Hi hsy;have HPS:=Hi hpy;have HLY:=Hi (show LnAt w0 (ly.drop 2) from HH.out _ hyl);have HFW:=Hi (HFi.out.upd (Upd.of_below hbb fun _=>False) id);have HNX:=Hi (show ¬ wr.heap.size=fb from by have:=HFi.out.lt;omega);clear hwb hbb hXb hq hTy hT0 hy hsb hnb hnz hb1 hmm hmi hyl hPy hsy hpy;by_cases hk12:k' = 12
   ·subst hk12;have hq3:=HQ2.out;rw [if_pos rfl] at hq3;have HQ3:=Hi hq3;have hdr:Below wb.heap.size wb wb.drew:=Below.drew (Below.refl _ _);obtain ⟨wd,hwd⟩:∃ u,wb.drew=u:=⟨_,rfl⟩;rw [hwd] at hdr;have HXd:=Hi (HXB.out.below hdr HXB.out.lt);have HBd:=Hi (HBr.out.below (HBB.out.trans (hdr.mono HBB.out.size)) HBr.out.lt);have HUd:=Hi (HUB.out.trans (Upd.of_below hdr _));obtain ⟨kd,hkd,hfu⟩:=HFW.out.upd (Upd.of_below hdr fun _=>False) id;obtain ⟨w5,hrun,hM5,ht5⟩:=mpn_put hkd HSY.out (by have:=HMI2.out;have:=HM.out;have:=HNZ.out;unfold maxLen;omega) ⟨12,a',s',n',A',ly.length,cA',B',py.length,cB'⟩;have hz5:Upd (fun b=>b=fb) wd w5:=turned_upd ht5 rfl;have HF5:=Hi (show FuM w0 w5 fb (mi+1) (fun t=>if t=s' then some (py,ly) else fi t) from ⟨_,hM5,fun t=>by
     by_cases e:t=s'
     ·subst e;rw [if_pos rfl];dsimp only;rw [if_pos rfl];exact ⟨_,rfl,HT0.out.1,HPS.out,HPY.out.len,HPY.out.num⟩
     ·have h:=hfu t;simp only [if_neg e];exact h⟩)
    have hrun':(Instr.mapUpdate 80 (.map (some fb)) (.string ⟨s'.toArray⟩) (.agg #[.int .i64 12,.string ⟨s'.toArray⟩,.int .u32 (n':Int),.int .i64 a',.slice A' ly.length cA',.slice B' py.length cB'])).run Tryz.prog wd = .ok () w5:=hrun;have HWD:=Hi hwd;clear hdr hkd hfu hM5 ht5 hrun hq3;go_upto_region 5 with fail
    rw [HWB.out];clear hwd;have hwd:=HWD.out;clear e0 e1 e2 e3 e4 e5 z0 z1 z2 z3 z4 z5 HWD;have hZ0:Upd (fun b=>b=fb) wd wd:=Upd.refl _ _;refine HT.wp_region (Z:=fun w'=>Upd (fun b=>b=fb) wd w') (S:=fun _=>True) (st:=[]) (by kernel_rfl) ?_;rw [hwd];clear hwd;refine HT.tm 0 rfl hZ0 HT.tr ?_;refine HT.tm 1 rfl hZ0 HT.tr ?_;refine HT.tm 2 rfl hZ0 HT.tr ?_;refine HT.tk 3 rfl (by intro v hSw;have hA:=HBd.out.upd hSw (fun h=>HNE.out h.symm);have c1:=(hA.cell 1).trans HBX.out;have hga:=hA.lt;clear hSw hA;go_simp;try with_reducible rfl) hZ0 HT.tr ?_;refine HT.tk 4 rfl (by intro v hSw;have hA:=HXd.out.upd hSw HNX.out;have E_:=Blk.c6 hA;have hga:=hA.lt;clear hSw hA;go_simp;try with_reducible rfl) hZ0 HT.tr ?_;refine HT.tk 5 rfl (by intro v hSw;have hA:=HXd.out.upd hSw HNX.out;have E_:=Blk.c6 hA;have hga:=hA.lt;clear hSw hA;go_simp;try with_reducible rfl) hZ0 HT.tr ?_;refine HT.tk 6 rfl (by intro v hSw;have hA:=HXd.out.upd hSw HNX.out;have E_:=Blk.c6 hA;have hga:=hA.lt;clear hSw hA;go_simp;try with_reducible rfl) hZ0 HT.tr ?_;refine HT.one (i:=7) (by kernel_rfl) rfl (fun K hK=>?_);go_simp;(try dsimp only);refine hK.out _ _ hz5 trivial ?_;clear hK K;(try simp only [HT.pS]);refine HT.done (by kernel_rfl) ?_;have H2:=Hi (HUd.out.trans hz5);have H3:=Hi (show mi+1+nbzs (l.drop (i+1))≤m+nbzs l from by have:=HMI2.out;have:=HNZ.out;omega);clear hZ0 hz5 hrun';go_wp2_with fail
    go_roundw
    case rel=>exact ⟨i+1,_,mi+1,by omega,by go_num,HF5,H2,H3,HQ3⟩
    case measure=>simp [intOf];omega
   have i12:(k'==12)=false:=by simpa using hk12
   by_cases hk11:k' = 11
   ·subst hk11;have hq3:=HQ2.out;rw [if_neg (by decide),if_pos rfl,lnTs_drop 2] at hq3;have HCU:=Hi (cutL wb 2 HPY.out (by decide));have HQ3:=Hi hq3;clear hq3;go_wp2_with fail
    rw [HWB.out];refine (show Calls Tryz.prog 58 #[.slice A' ly.length cA',.int .i64 2] wb _ from HCU.out).mono ?_;rintro e w5 ⟨l1,l2,A1,c1,A2,c2,h1,h2,rfl,hP1,hP2,hb5⟩;have hnd:nbzs l2≤nbzs ly:=by rw [h2];exact nbzs_le_drop' 2 ly
    have hl2:=HLY.out;rw [←h2] at hl2;have HLE:=Hi (hl2 w5 g fb mi fi A2 c2 bx ((HB0r.out.trans (HBB.out.mono HB0r.out.size)).trans (hb5.mono (Nat.le_trans HB0r.out.size HBB.out.size))) HFB.out HNE.out (HFW.out.upd (Upd.of_below hb5 fun _=>False) id) (by have:=HMI2.out;have:=HNZ.out;have:=HM.out;omega) (HBr.out.below (HBB.out.trans (hb5.mono HBB.out.size)) HBr.out.lt) HBX.out hP2);rw [h2,←h2] at HLE;have HU5:=Hi (HUB.out.trans (Upd.of_below hb5 _));have HND:=Hi hnd;rw [←h2] at HQ3;clear h1 h2 hP1 hP2 hb5 hnd hl2 e0 e1 e2 e3 e4 e5 z0 z1 z2 z3 z4 z5;go_wp2_with fail
    refine (show Calls Tryz.prog 49 #[.pointer (some ⟨g,0,none⟩),.slice A2 l2.length c2] w5 _ from HLE.out).mono ?_;rintro e w6 ⟨rfl,hF6,hu6⟩;have H1:=Hi hF6;have H2:=Hi (HU5.out.trans hu6);have H3:=Hi (show mi+nbzs l2+nbzs (l.drop (i+1))≤m+nbzs l from by have:=HMI2.out;have:=HNZ.out;have:=HND.out;omega);clear hF6 hu6;go_wp2_with fail
    go_roundw
    case rel=>exact ⟨i+1,_,mi+nbzs l2,by omega,by go_num,H1,H2,H3,HQ3⟩
    case measure=>simp [intOf];omega
   ·have i11:(k'==11)=false:=by simpa using hk11
    have hq3:=HQ2.out;rw [if_neg hk12,if_neg hk11] at hq3;have HQ3:=Hi hq3;have H3:=Hi (show mi+nbzs (l.drop (i+1))≤m+nbzs l from by have:=HMI2.out;omega);clear hq3 hk11 hk12;go_wp2_with fail
    rw [HWB.out]
    go_roundw
    case rel=>exact ⟨i+1,fi,mi,by omega,by go_num,HFW,HUB,H3,HQ3⟩
    case measure=>simp [intOf];omega
  ·obtain rfl:i=l.length:=by omega
   have hq:=HQ.out;rw [List.drop_length,lnTs_nil] at hq;have HEND:=Hi (show LnP w0 w fb (m+nbzs l) res (.returned (.tuple #[])) wr from by
    rw [←hq];exact ⟨rfl,HFi.out.mono (by have:=HMI.out;omega),HU.out⟩)
   clear hq;go_wp2_with fail
   first | go_end0 | skip
   all_goals first | exact HEND.out | exact bodyPost_ret (results_none rfl _ _ _) rfl HEND.out
theorem size_drop:∀ (i:Nat) (l:List Tz),SizeOf.sizeOf (l.drop i)≤SizeOf.sizeOf l
 | 0,l=>Nat.le_refl _
 | i+1,[]=>by simp
 | i+1,x :: l=>by
  rw [List.drop_succ_cons];have:=size_drop i l;simp only [List.cons.sizeOf_spec];omega
theorem learn_all{w0:World}:∀ (m:Nat) (l:List Tz),SizeOf.sizeOf l < m→LnAt w0 l
 | 0,l,h=>absurd h (Nat.not_lt_zero _)
 | m+1,l,h=>learn_ l fun y hy=>learn_all m _ (by
  have h1:=List.sizeOf_lt_of_mem hy;obtain ⟨k,a,s,n,ps,ly⟩:=y;have h2:=size_drop 2 ly;simp only [Tz.mk.sizeOf_spec] at h1;show SizeOf.sizeOf (ly.drop 2) < m;omega)
end Go.Proofs.YtdhoemlomojfaaaGreatDoor.Fl
namespace Go.Proofs.YtdhoemlomojfaaaGreatDoor.Fl
open Lx Pa Sh Go.Proofs.YtdhoemlomojfaaaGreatDoor.Nm
def ErR{α:Type}:Rf α→Prop | .ok _=>True | .bad _ e=>e≠0
theorem ErR.bnd{α β:Type}{r:Rf α}{f:α→Rf β}(h:ErR r)(hf:∀ x,ErR (f x)):ErR (bndF r f):=by
 cases r with
 | ok x=>exact hf x
 | bad a e=>exact h
theorem nu_er{num:Num}{kn:Kw}(z:Tz):ErR (nuB num kn z):=by
 unfold nuB;cases strB (looB kn) z with
 | none=>trivial
 | some e=>
  show badB kn e≠0;unfold badB;by_cases h:e.1 = 1∧secB kn e.2.2=true
  ·rw [if_pos h];decide
  ·rw [if_neg h];decide
theorem seq_er{f:Tz→Int→Rf (Bool×Int)}(h:∀ z nd,ErR (f z nd)):∀ (l:List Tz) (nd:Int),ErR (seqB f l nd)
 | [],nd=>trivial
 | x :: l,nd=>by
  unfold seqB;exact (h x nd).bnd fun q=>(seq_er h l q.2).bnd fun r=>trivial
def ErC(sub:Sub):Prop:=∀ kn z nd,ErR (sub kn z nd)
theorem cal_er{fu:Fu}{sub:Sub}(hc:ErC sub)(s:Bs)(q:List Bool×Int):ErR (calB fu sub s q):=by
 unfold calB;by_cases hs:s=sel
 ·rw [if_pos hs];trivial
 rw [if_neg hs];cases fu s with
 | none=>trivial
 | some f=>exact (seq_er (fun z nd=>hc _ z nd) _ _).bnd fun r=>trivial
section
variable {num : Num} {M : Int} {D R : Nat} {fu : Fu}
mutual
theorem exT_er{kn:Kw}{deep:Bool}{sub:Sub}(hc:ErC sub):∀ (z:Tz) (nd:Int),ErR (exT num M fu deep sub kn z nd)
 | .mk k a s _ _ l,nd=>by
  unfold exT;by_cases h5:k = 5
  ·rw [if_pos h5];by_cases h1:M < nx nd∨deep=true
   ·rw [if_pos h1];show (150:Nat)≠0;decide
   rw [if_neg h1];exact (seq_er (fun z nd=>hc _ z nd) _ _).bnd fun q=>cal_er hc s q
  rw [if_neg h5];by_cases h4:k = 4
  ·rw [if_pos h4];exact exS_er hc l _
  rw [if_neg h4];exact (exTs_er hc l _).bnd fun q=>trivial
theorem exS_er{kn:Kw}{deep:Bool}{sub:Sub}(hc:ErC sub):∀ (l:List Tz) (nd:Int),ErR (exS num M fu deep sub kn l nd)
 | [],nd=>by unfold exS;trivial
 | [x],nd=>by
  unfold exS;exact ErR.bnd (α:=BitVec 32) (r:=.ok 0) trivial fun _=>exT_er hc x nd
 | x :: y :: l,nd=>by
  unfold exS;exact (nu_er y).bnd fun _=>exT_er hc x nd
theorem exTs_er{kn:Kw}{deep:Bool}{sub:Sub}(hc:ErC sub):∀ (l:List Tz) (nd:Int),ErR (exTs num M fu deep sub kn l nd)
 | [],nd=>by unfold exTs;trivial
 | x :: l,nd=>by
  unfold exTs;exact (exT_er hc x nd).bnd fun q=>(exTs_er hc l q.2).bnd fun r=>trivial
end
theorem exC_er:∀ (c:Nat),ErC (exC num M fu c)
 | 0=>fun kn z nd=>by unfold exC;exact exT_er (sub:=fun _ _ nd=>.ok (false,nd)) (fun _ _ _=>trivial) z nd
 | c+1=>fun kn z nd=>by unfold exC;exact exT_er (exC_er c) z nd
theorem hd_er{l:List Tz}{nd:Int}{f:Tz→Int→Rf (Bool×Int)}(h:∀ x nd,ErR (f x nd)):ErR (hdB l nd f):=by
 cases l with
 | nil=>trivial
 | cons x l=>exact h x nd
theorem ro_er{a:Int}{s:Bs}{body:Sf→Rf Sf}(hb:∀ c,ErR (body c)):∀ (n:Nat) (i:BitVec 32) (c:Sf),ErR (roB R a s body n i c)
 | 0,i,c=>trivial
 | n+1,i,c=>by
  unfold roB;by_cases hr:R < c.rd+1
  ·rw [if_pos hr];show (150:Nat)≠0;decide
  ·rw [if_neg hr];exact (hb _).bnd fun d=>ro_er hb n (i+1) _
mutual
theorem sfT_er:∀ (z:Tz) (c:Sf),ErR (sfT num M D R fu z c)
 | .mk k a s n ps l,c=>by
  unfold sfT;by_cases h6:k = 6∨k = 7
  ·rw [if_pos h6];trivial
  rw [if_neg h6];by_cases h10:k = 10
  ·rw [if_pos h10];exact (hd_er fun x nd=>exC_er D c.kn x nd).bnd fun q=>trivial
  rw [if_neg h10];by_cases h8:k = 8∨k = 9
  ·rw [if_pos h8];refine (hd_er fun x nd=>exC_er D c.kn x nd).bnd fun q=>?_
   by_cases h9:q.1=true∧k = 9
   ·rw [if_pos h9];show (130:Nat)≠0;decide
   ·rw [if_neg h9];trivial
  rw [if_neg h8];by_cases h11:k = 11
  ·rw [if_pos h11];have hi:ErR (n0B num c.kn l):=by
    cases l with
    | nil=>trivial
    | cons x l=>exact nu_er x
   have hj:ErR (n1B num c.kn l):=by
    cases l with
    | nil=>trivial
    | cons x l=>
     cases l with
     | nil=>trivial
     | cons y l=>exact nu_er y
   exact hi.bnd fun i=>hj.bnd fun j=>ro_er (fun d=>sfTs_er 2 l d) _ _ c
  ·rw [if_neg h11];trivial
theorem sfTs_er:∀ (i:Nat) (l:List Tz) (c:Sf),ErR (sfTs num M D R fu i l c)
 | _,[],c=>by unfold sfTs;trivial
 | 0,x :: l,c=>by
  unfold sfTs;exact (sfT_er x c).bnd fun d=>sfTs_er 0 l d
 | i+1,x :: l,c=>by
  unfold sfTs;exact sfTs_er i l c
end
end
end Go.Proofs.YtdhoemlomojfaaaGreatDoor.Fl
