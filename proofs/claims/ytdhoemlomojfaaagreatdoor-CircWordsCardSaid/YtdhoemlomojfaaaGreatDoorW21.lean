/- DERIVED. NmLo, FlOpen. By an AI agent. -/
import Derived.Test.YtdhoemlomojfaaaGreatDoorW01
import Derived.Test.YtdhoemlomojfaaaGreatDoorW03
import Derived.Test.YtdhoemlomojfaaaGreatDoorW20
import Derived.Test.YtdhoemlomojfaaaGreatDoorW18
import Derived.Deep.Cut
import Derived.Carry
import Derived.Deep.CutBlock
set_option maxRecDepth 100000
set_option maxHeartbeats 8000000
set_option linter.unusedVariables false
set_option linter.unusedSimpArgs false
namespace Go.Proofs.YtdhoemlomojfaaaGreatDoor.Nm
open Go Go.ChangeShapes Go.WideShapes Go.ChangeAt Go.RowKit Lx Args Pa Sh
mutual
def nbz:Tz→Nat
 | .mk _ _ _ _ ps l=>ps.length+1+nbzs l
def nbzs:List Tz→Nat
 | []=>0
 | x :: l=>nbz x+nbzs l
end
theorem nbzs_drop:∀ (i:Nat) (l:List Tz),nbzs (l.drop i)≤nbzs l
 | 0,l=>by rw [List.drop_zero];exact Nat.le_refl _
 | i+1,[]=>by simp
 | i+1,x :: l=>by
  rw [List.drop_succ_cons];have:=nbzs_drop i l;show nbzs (l.drop i)≤nbz x+nbzs l;omega
def StC(M:Nat):Prop:=∀ (z:Tz),SizeOf.sizeOf z < M→∀ (w0 w:World) (N:Nat→Prop) (lo g:Nat) (c:St) (m:Nat) (k a:Int) (s:Bs) (n:Nat) (A:Option Addr) (la cA:Nat) (B:Option Addr) (lb cB:Nat),Below w0.heap.size w0 w→TIc True w0 z (nzC k a s n A la cA B lb cB)→lenz z→(∀ b,N b→w0.heap.size≤b)→CK N lo w g c m→Sorts c.kn→m+nbz z≤1099511627776 →
 Calls Tryz.prog 89 #[.pointer (some ⟨g,0,none⟩),nzA k a s n A la cA B lb cB] w (StatP N lo w g (stB z c) (m+nbz z))
theorem CK.sorts{N:Nat→Prop}{lo:Nat}{w:World}{g:Nat}{c:St}{m:Nat}(h:CK N lo w g c m):Sorts c.kn:=h.knp.sorts
theorem statements{M:Nat}(H:StC M)(w0 w:World)(N:Nat→Prop)(lo g:Nat)(c:St)(m:Nat)(A:Option Addr)(cA:Nat)(l:List Tz)(css:List (List Value))(hb:Below w0.heap.size w0 w)(hL:Lies w0 A css.flatten)(hS:TsIc True w0 l css)(hl:l.length≤maxLen)
  (hlz:lenzs l) (hsz:∀ (i:Nat) (x:Tz),l[i]?=some x→SizeOf.sizeOf x < M) (hN:∀ b,N b→w0.heap.size≤b) (hc:CK N lo w g c m) (hm:m+nbzs l≤1099511627776) :
  Calls Tryz.prog 74 #[.pointer (some ⟨g,0,none⟩),.slice A l.length cA] w (StatP N lo w g (stBs 0 l c) (m+nbzs l)):=by
 have hlm:l.length≤9223372036854775807:=hl;have HH:=Hi H;have HL:=Hi hL;have HS:=Hi hS;have HLZ:=Hi hlz;have HSZ:=Hi hsz;have HN:=Hi hN;have HM:=Hi hm;have HC0:=Hi (hc.mono (N':=New N w) fun b h _ _=>.inl h);have HB0:=Hi hb;obtain ⟨res,hres⟩:∃ res,stBs 0 l c=res:=⟨_,rfl⟩;rw [hres];have HRES:=Hi hres;obtain ⟨M0,hM0⟩:∃ M0,m+nbzs l=M0:=⟨_,rfl⟩;rw [hM0] at HM ⊢;have HMS:=Hi (show m+nbzs l≤M0 by omega);clear H hL hS hlz hsz hN hm hc hb hres hl hM0;go_enter Tryz.func74,Tryz.ntmps74;go_wp2_with fail
 go_loopw [8] (fun vi wr=>∃ (i:Nat) (ci:St) (mi:Nat),i≤l.length∧vi = .int .i64 (i:Int)∧Hid (CK (New N w) lo wr g ci mi)∧Hid (mi+nbzs (l.drop i)≤M0)∧Hid (Upd N w wr)∧Hid (Below w0.heap.size w0 wr)∧Hid (stBs 0 (l.drop i) ci=res)) (fun vi _=>l.length - (intOf vi).toNat)
 case atStart=>exact ⟨0,c,m,by omega,rfl,HC0,Hi HMS.out,Hi (Upd.refl _ _),HB0,HRES⟩
 case round=>
  obtain ⟨i,ci,mi,hi,rfl,HC,HMI,HU,HBE,HQ⟩:=hrel;by_cases hlt:i < l.length
  ·have hil:(i:Int) < (l.length:Int):=by omega
   obtain ⟨y,hy⟩:∃ y,l[i]?=some y:=⟨_,List.getElem?_eq_getElem hlt⟩;obtain ⟨b,o,k',a',s',n',A',la',cA',B',lb',cB',rfl,hTy,hbl,g0,g1,g2,g3,g4,g5⟩:=partz_b HBE.out HL.out HS.out hy;obtain ⟨wb,hwb,hbb,hXb,hsb⟩:=a_box wr (nB k' a' s' n' A' la' cA' B' lb' cB');have hq:=HQ.out;rw [drop_at hy,stBs_cons] at hq;have hmi:=HMI.out;rw [drop_at hy] at hmi;unfold nbzs at hmi;have hCb:CK (fun b=>New N w b∧b < wr.heap.size) lo wb g ci mi:=(HC.out.mono (N':=fun b=>New N w b∧b < wr.heap.size) fun b h1 h2 _=>⟨h1,h2⟩).below hbb;have hC:=HH.out y (HSZ.out i y hy) w0 wb _ lo g ci mi k' a' s' n' A' la' cA' B' lb' cB' (HBE.out.trans (hbb.mono HBE.out.size)) hTy (lenzs_at HLZ.out hy) (fun b hb=>hb.1.elim (HN.out b) fun h=>Nat.le_trans HB0.out.size h) hCb hCb.sorts (by have:=HM.out;omega);obtain ⟨⟨e0,e1,e2,e3,e4,e5⟩,z0,z1,z2,z3,z4,z5⟩:=Blk.c6 hXb;have HCC:=Hi hC;have HWB:=Hi hwb;have HQ2:=Hi hq;have HBB:=Hi hbb;have HMI2:=Hi hmi;have hsr:=HU.out.size;generalize nbz y=my at HCC HMI2;clear hC hwb hbb hXb hq hTy hy hCb hmi;generalize stB y ci=r2 at HCC HQ2;go_wp2_with fail
   rw [HWB.out];refine (show Calls Tryz.prog 89 #[.pointer (some ⟨g,0,none⟩),nzA k' a' s' n' A' la' cA' B' lb' cB'] wb _ from HCC.out).mono ?_;intro e w4 h4;cases r2 with
   | bad a2=>
    obtain ⟨rfl,hu4⟩:=h4;have HQ3:=Hi (show Rs.bad a2=res from HQ2.out);have HEND:=Hi (show StatP N lo w g res M0 (panW a2) w4 from by
     rw [←HQ3.out];exact ⟨rfl,upd_then (upd_then HU.out (Upd.of_below HBB.out fun _=>False) fun _ h=>h.elim) hu4 fun b hb hlt=>hb.1.resolve_right (by omega)⟩)
    clear hu4;go_wp2_with fail
    exact ⟨rfl,HEND.out⟩
   | ok c2=>
    obtain ⟨rfl,hc4,hu4⟩:=h4;have HC4:=Hi (hc4.mono (N':=New N w) fun b hb _ _=>hb.elim (fun h=>h.1) fun h=>.inr (Nat.le_trans hsr (by omega)));have HU4:=Hi (upd_then (upd_then HU.out (Upd.of_below HBB.out fun _=>False) fun _ h=>h.elim) hu4 fun b hb hlt=>hb.1.resolve_right (by omega));have HB4:=Hi (below_low (HBE.out.trans (HBB.out.mono HBE.out.size)) hu4 fun b hb=>hb.1.elim (HN.out b) fun h=>Nat.le_trans HB0.out.size h);have HMI3:=Hi (show mi+my+nbzs (l.drop (i+1))≤M0 by have:=HMI2.out;omega);clear hc4 hu4;go_wp2_with fail
    go_roundw
    case rel=>exact ⟨i+1,c2,mi+my,by omega,by go_num,HC4,HMI3,HU4,HB4,Hi HQ2.out⟩
    case measure=>simp [intOf];omega
  ·obtain rfl:i=l.length:=by omega
   have hq:=HQ.out;rw [List.drop_length,stBs_nil] at hq;have hmi:=HMI.out;have HEND:=Hi (show StatP N lo w g res M0 (.returned (.tuple #[])) wr from by rw [←hq];exact ⟨rfl,HC.out.more (by omega),HU.out⟩);clear hq;go_wp2_with fail
   first | go_end0 | skip
   all_goals first | exact HEND.out | exact bodyPost_ret (results_none rfl _ _ _) rfl HEND.out
theorem cut_parts2{q:Prop}{w0 w:World}{A:Option Addr}{l:List Tz}{css:List (List Value)}{k:Nat}{e:Ending}{w':World}(h:CutP w A l.length k e w')(hL:Lies w0 A css.flatten)(hS:TsIc q w0 l css) :
  ∃ A1 c1 A2 c2 css1 css2,e = .returned (.tuple #[.slice A1 (l.take k).length c1,.slice A2 (l.drop k).length c2])∧Lies w0 A1 css1.flatten∧TsIc q w0 (l.take k) css1∧Lies w0 A2 css2.flatten∧TsIc q w0 (l.drop k) css2∧Below w.heap.size w w':=by
 obtain ⟨A1,c1,A2,c2,rfl,h1,h2,hb⟩:=h;obtain ⟨h4,h5,h6,h7⟩:=tsIc_take k hS;refine ⟨A1,c1,A2,c2,css.take k,css.drop k,by rw [List.length_take,List.length_drop],lies_take (h1 w0 _ hL) h7,h4,?_,h5,hb⟩;by_cases hlt:0 < l.length - k
 ·rw [←h6];exact h2 hlt w0 _ hL
 ·have:l.drop k=[]:=List.drop_eq_nil_of_le (by omega);rw [this] at h5;unfold TsIc at h5;rw [h5];exact Lies.nil _ _
def loopB(a:Int)(s:Bs)(l:List Tz)(c:St):Rs:=
 exR (exBs (wordB c.kn) (callB c.kn) (l.take 2)) (if namedB c.kn s=true then .bad a else
  bndR (stBs 2 l { c with kn:=c.kn.put s (3,0),en:=c.en ++ [s] }) fun d=>.ok { d with kn:=d.kn.dels (d.en.drop c.en.length),en:=d.en.take c.en.length })
theorem dels_snoc(kn:Kn)(l:List Bs)(s:Bs):(kn.dels l).dels [s]=kn.dels (l ++ [s]):=by
 funext t
 unfold Kn.dels;by_cases h:t∈l <;> by_cases h2:t=s <;> simp [h,h2]
theorem loop{M:Nat}(H:StC M)(w0 w:World)(N:Nat→Prop)(lo g:Nat)(c:St)(m:Nat)(k a:Int)(s:Bs)(n:Nat)(A:Option Addr)(cA:Nat)(B:Option Addr)(lb cB:Nat)(l:List Tz)(css:List (List Value))(hb:Below w0.heap.size w0 w)(hL:Lies w0 A css.flatten)(hS:TsIc True w0 l css)(hlc:l.length≤cA∧cA≤maxLen)
  (hsz:∀ (i:Nat) (x:Tz),l[i]?=some x→SizeOf.sizeOf x < M) (hs:s.length≤maxLen) (hlz:lenzs l) (hN:∀ b,N b→w0.heap.size≤b) (hc:CK N lo w g c m) (hm:m+1+nbzs l≤1099511627776) :
  Calls Tryz.prog 116 #[.pointer (some ⟨g,0,none⟩),nzA k a s n A l.length cA B lb cB] w (StatP N lo w g (loopB a s l c) (m+1+nbzs l)):=by
 have HH:=Hi H;have HSZ:=Hi hsz;have HST:=Hi hS;have HNN:=Hi hN;have hS:=tsIz_weak hS;clear H hsz;obtain ⟨wn,hwn,hbn,hXn,hsn⟩:=a_box w (nB k a s n A l.length cA B lb cB);obtain ⟨⟨e0,e1,e2,e3,e4,e5⟩,z0,z1,z2,z3,z4,z5⟩:=Blk.c6 hXn;have HCU:=Hi (cut_ wn A l.length cA 2 hlc.1 hlc.2 (by decide));have HC0:=Hi (in2_start hc hbn);have HU0:=Hi (Upd.of_below hbn N);have HX0:=Hi hXn;have HW:=Hi hwn;have HB0:=Hi (hb.trans (hbn.mono hb.size));have HL:=Hi hL;have HS:=Hi hS;have HLZ:=Hi hlz;have HM:=Hi hm;have HN:=Hi (in2_low (w:=w) hN (Nat.le_trans hb.size hbn.size));have HSN:=Hi hsn;have hlm:l.length≤maxLen:=Nat.le_trans hlc.1 hlc.2;obtain ⟨res,hres⟩:∃ res,loopB a s l c=res:=⟨_,rfl⟩;rw [hres];have HRES:=Hi hres;have hgl:=hXn.lt;clear hc hbn hXn hwn hb hL hS hlz hm hN hlc hres hsn;go_enter Tryz.func116,Tryz.ntmps116;go_wp2_with fail
 rw [HW.out];refine (show Calls Tryz.prog 142 #[.slice A l.length cA,.int .i64 2] wn _ from HCU.out).mono ?_;intro e w1 hcp;obtain ⟨A1,c1,A2,c2,css1,css2,rfl,hL1,hS1,hL2,hS2,hb1⟩:=cut_parts2 hcp HL.out HST.out;have HX1:=Hi (HX0.out.below hb1 HX0.out.lt);have HC1:=Hi (HC0.out.below hb1);have HU1:=Hi (upd_then HU0.out (Upd.of_below hb1 fun _=>False) fun _ h=>h.elim);have HB1:=Hi (HB0.out.trans (hb1.mono HB0.out.size));have hs1:=hb1.size;have HEX:=Hi (exprs w0 w1 g c.kn _ _ _ A1 c1 (l.take 2) css1 HB1.out hL1 (tsIz_weak hS1) (Nat.le_trans (by rw [List.length_take];omega) hlm) (lenzs_take 2 HLZ.out).1 HC1.out.knp (isN_word HC1.out.knp));have HL2:=Hi hL2;have HS2:=Hi hS2;clear hcp hL1 hS1 hL2 hS2 hb1 HCU e0 e1 e2 e3 e4 e5 z0 z1 z2 z3 z4 z5;obtain ⟨⟨e0,e1,e2,e3,e4,e5⟩,z0,z1,z2,z3,z4,z5⟩:=Blk.c6 HX1.out;unfold loopB at HRES;generalize exBs (wordB c.kn) (callB c.kn) (l.take 2)=r1 at HEX HRES;generalize (l.take 2).length=n1 at HEX;obtain ⟨lb2,hlb2⟩:∃ lb2,l.drop 2=lb2:=⟨_,rfl⟩;have HLB:=Hi hlb2;rw [hlb2] at HS2 ⊢;clear hlb2;have hlb2m:lb2.length≤9223372036854775807:=by rw [←HLB.out,List.length_drop];exact Nat.le_trans (Nat.sub_le _ _) hlm
 go_wp2_with fail
 refine (show Calls Tryz.prog 143 #[.pointer (some ⟨g,0,none⟩),.func (.func 145) #[.pointer (some ⟨g,0,none⟩)] #[],.slice A1 n1 c1] w1 _ from HEX.out).mono ?_;intro e w2 h2;cases r1 with
 | some a1=>
  obtain ⟨rfl,hb2⟩:=h2;have HEND:=Hi (show StatP N lo w g res (m+1+nbzs l) (panW a1) w2 from by rw [←HRES.out];exact ⟨rfl,upd_then HU1.out (Upd.of_below hb2 fun _=>False) fun _ h=>h.elim⟩);clear hb2;go_wp2_with fail
  exact ⟨rfl,HEND.out⟩
 | none=>
 obtain ⟨rfl,hb2⟩:=h2;have HX2:=Hi (HX1.out.below hb2 HX1.out.lt);have HC2:=Hi (HC1.out.below hb2);have HU2:=Hi (upd_then HU1.out (Upd.of_below hb2 fun _=>False) fun _ h=>h.elim);have HB2:=Hi (HB1.out.trans (hb2.mono HB1.out.size));have hs2:=hb2.size;have hdr:Below w2.heap.size w2 w2.drew:=Below.drew (Below.refl _ _);obtain ⟨wd,hwd⟩:∃ v,w2.drew=v:=⟨_,rfl⟩;rw [hwd] at hdr;have HXd:=Hi (HX2.out.below hdr HX2.out.lt);have HCd:=Hi (HC2.out.below hdr);have HUd:=Hi (upd_then HU2.out (Upd.of_below hdr fun _=>False) fun _ h=>h.elim);have HBd:=Hi (HB2.out.trans (hdr.mono HB2.out.size));have hsd:=hdr.size;have hZ0:Below wd.heap.size wd wd:=Below.refl _ _;have HIN:=Hi (isNamed wd g c.kn HCd.out.knp s hs);clear hb2 hdr e0 e1 e2 e3 e4 e5 z0 z1 z2 z3 z4 z5;go_wp2_with fail
 refine HT.wp_region (Z:=fun w'=>Below wd.heap.size wd w') (S:=fun _=>True) (st:=[]) (by kernel_rfl) ?_;rw [hwd];clear hwd;refine HT.tk 0 rfl (by intro v hSw;have hA:=HXd.out.below hSw HXd.out.lt;have E_:=Blk.c6 hA;clear hSw hA;go_simp;try with_reducible rfl) hZ0 HT.tr ?_;refine HT.tk 1 rfl (by intro v hSw;have hA:=HXd.out.below hSw HXd.out.lt;have E_:=Blk.c6 hA;clear hSw hA;go_simp;try with_reducible rfl) hZ0 HT.tr ?_;refine HT.tk 2 rfl (by intro v hSw;have hA:=HXd.out.below hSw HXd.out.lt;have E_:=Blk.c6 hA;clear hSw hA;go_simp;try with_reducible rfl) hZ0 HT.tr ?_;refine HT.tk 3 rfl (by intro v hSw;have hA:=HXd.out.below hSw HXd.out.lt;have E_:=Blk.c6 hA;clear hSw hA;go_simp;try with_reducible rfl) hZ0 HT.tr ?_;refine HT.one (i:=4) (by kernel_rfl) rfl (fun K hK=>?_);go_simp;refine HIN.out.mono ?_;rintro e w5 ⟨rfl,hb5⟩;(try dsimp only);refine hK.out _ _ hb5 trivial ?_;clear hK K;(try simp only [HT.pS]);have HR:=Hi (refuse w5 k a s n A l.length cA B lb cB (namedB c.kn s));obtain ⟨q,hq⟩:∃ q,namedB c.kn s=q:=⟨_,rfl⟩;rw [hq] at HR HRES ⊢;clear HIN hq;cases q with
 | true=>
  have HQ2:=Hi (show Rs.bad a=res from HRES.out);refine HT.one (i:=5) (by kernel_rfl) rfl (fun K hK=>?_);go_simp;refine (show Calls Tryz.prog 137 #[nzA k a s n A l.length cA B lb cB,.bool true] w5 _ from HR.out).mono ?_;rintro e w6 ⟨rfl,hb6⟩;have HEND:=Hi (show StatP N lo w g res (m+1+nbzs l) (panW a) w6 from by rw [←HQ2.out];exact ⟨rfl,upd_then (upd_then HUd.out (Upd.of_below hb5 fun _=>False) fun _ h=>h.elim) (Upd.of_below hb6 fun _=>False) fun _ h=>h.elim⟩);clear hb6;exact ⟨rfl,HEND.out⟩
 | false=>
 refine HT.one (i:=5) (by kernel_rfl) rfl (fun K hK=>?_);go_simp;refine (show Calls Tryz.prog 137 #[nzA k a s n A l.length cA B lb cB,.bool false] w5 _ from HR.out).mono ?_;rintro e w6 ⟨rfl,hb6⟩;have hz6:=hb5.trans (hb6.mono hb5.size);have HX6:=Hi (HXd.out.below hz6 HXd.out.lt);have HC6:=Hi (HCd.out.below hz6);have HU6:=Hi (upd_then HUd.out (Upd.of_below hz6 fun _=>False) fun _ h=>h.elim);have HB6:=Hi (HBd.out.trans (hz6.mono HBd.out.size));have hs6:=hz6.size;clear hb6;(try dsimp only);refine hK.out _ _ hz6 trivial ?_;clear hK K;(try simp only [HT.pS]);refine HT.done (by kernel_rfl) ?_;clear hb5 hz6 HR hZ0 HXd HCd HUd HBd HX2 HC2 HU2 HB2 HX1 HC1 HU1 HB1 HX0 HC0 HU0 HB0;obtain ⟨⟨vs,vp,vo,ve,kb,ob,hv⟩,_⟩:=HC6.out;obtain ⟨Ae,ce,rfl⟩:=own_sl hv.oe;have c5:w6.cell? ⟨g,5,none⟩=some (.slice Ae c.en.length ce):=hv.blk.cell 5;have HNA:=Hi (name_ (In2 N w wn) lo w6 g c m HC6.out (by have:=HM.out;omega) s hs 3 (by decide));obtain ⟨⟨e0,e1,e2,e3,e4,e5⟩,z0,z1,z2,z3,z4,z5⟩:=Blk.c6 HX6.out;clear hv;go_wp2_with fail
 refine (show Calls Tryz.prog 139 #[.pointer (some ⟨g,0,none⟩),.string ⟨s.toArray⟩,.int .i64 3] w6 _ from HNA.out).mono ?_;rintro e w7 ⟨rfl,hc7,hu7⟩;have HC7:=Hi (in2_new hc7 (show wn.heap.size≤w6.heap.size by omega));have HU7:=Hi (in2_upd HU6.out hu7 (by have:=HSN.out;omega));have HB7:=Hi (below_low HB6.out hu7 HN.out);have hs7:=hu7.size;obtain ⟨c1,hc1⟩:∃ c1:St,({ c with kn:=c.kn.put s (3,0),en:=c.en ++ [s] }:St)=c1:=⟨_,rfl⟩;rw [hc1] at HC7 HRES;have HST2:=Hi (statements HH.out w0 w7 (In2 N w wn) lo g c1 (m+1) A2 c2 lb2 css2 HB7.out HL2.out HS2.out hlb2m (by rw [←HLB.out];exact (lenzs_take 2 HLZ.out).2) (fun i x hx=>HSZ.out (2+i) x (by rw [←HLB.out,List.getElem?_drop] at hx;exact hx)) HN.out HC7.out (by have:=HM.out;have:=nbzs_drop 2 l;rw [HLB.out] at this;omega));have HSO:=Hi HC7.out.sorts;have HC1E:=Hi (show c1.en.length=c.en.length+1 by rw [←hc1];simp);rw [stBs_drop 2,HLB.out] at HRES;have HRES:Hid (bndR (stBs 0 lb2 c1) (fun d=>.ok { d with kn:=d.kn.dels (d.en.drop c.en.length),en:=d.en.take c.en.length })=res):=Hi HRES.out;have HEXT:=Hi (fun c3 (h:stBs 0 lb2 c1 = .ok c3)=>(stBs_ext h HSO.out).1.len);have HML:=Hi (show nbzs lb2≤nbzs l by rw [←HLB.out];exact nbzs_drop 2 l);generalize stBs 0 lb2 c1=r3 at HST2 HRES HEXT;clear hc7 hu7 hc1 HNA e0 e1 e2 e3 e4 e5 z0 z1 z2 z3 z4 z5 c5;go_wp2_with fail
 refine (show Calls Tryz.prog 74 #[.pointer (some ⟨g,0,none⟩),.slice A2 lb2.length c2] w7 _ from HST2.out).mono ?_;intro e w8 h8;cases r3 with
 | bad a3=>
  obtain ⟨rfl,hu8⟩:=h8;have HEND:=Hi (show StatP N lo w g res (m+1+nbzs l) (panW a3) w8 from by rw [←HRES.out];exact ⟨rfl,in2_upd HU7.out hu8 (by have:=HSN.out;omega)⟩);clear hu8;go_wp2_with fail
  exact ⟨rfl,HEND.out⟩
 | ok c3=>
 obtain ⟨rfl,hc8,hu8⟩:=h8;have HC8:=Hi (in2_new hc8 (show wn.heap.size≤w7.heap.size by omega));have HU8:=Hi (in2_upd HU7.out hu8 (by have:=HSN.out;omega));have HB8:=Hi (below_low HB7.out hu8 HN.out);have hs8:=hu8.size;have HQ2:=Hi (show Rs.ok { c3 with kn:=c3.kn.dels (c3.en.drop c.en.length),en:=c3.en.take c.en.length }=res from HRES.out);have hlen:=HEXT.out c3 rfl;have hlen2:=HC1E.out;obtain ⟨⟨vs,vp,vo,ve,kb,ob,hv⟩,hbd⟩:=HC8.out;obtain ⟨Ae,ce,rfl⟩:=own_sl hv.oe;have hsome:∃ ge,Ae=some ⟨ge,0,none⟩∧c3.en.length≤ce∧ce≤maxLen:=by
  rcases hv.oe.2 with ⟨h,h0⟩ | ⟨g',cap,cur,h,_,_,h1,h2,_⟩
  ·omega
  ·cases h;exact ⟨g',rfl,h1,h2⟩
 obtain ⟨ge,rfl,hce,hcm⟩:=hsome;have HV8:=Hi hv;have HBD:=Hi hbd;have hcmm:ce≤9223372036854775807:=hcm;obtain ⟨ah,hah⟩:∃ ah,c.en.length=ah:=⟨_,rfl⟩;rw [hah] at hlen2 HQ2 ⊢;have hah1:ah < c3.en.length:=by omega
 have hne:¬ ce=ah:=by omega
 have i1:(0:Int)≤(ah:Int):=by omega
 have i2:(ah:Int)≤(c3.en.length:Int):=by omega
 have c5:w8.cell? ⟨g,5,none⟩=some (.slice (some ⟨ge,0,none⟩) c3.en.length ce):=hv.blk.cell 5;have c3':w8.cell? ⟨g,3,none⟩=some (.map (some kb)):=hv.blk.cell 3;obtain ⟨dl,hdl⟩:∃ dl,c3.en.drop ah=dl:=⟨_,rfl⟩;have hdll:dl.length=c3.en.length - ah:=by rw [←hdl];simp
 have hLd:Lies w8 (some ⟨ge,ah,none⟩) (dl.map strV):=fun j u hj=>by
  refine ⟨_,rfl,?_⟩;rw [Args.add_plain];have:=hv.oe.cells (g:=ge) rfl (ah+j) u (by rw [←hdl,List.map_drop,List.getElem?_drop] at hj;exact hj);rw [Args.add_plain] at this;simpa using this
 have hgk:¬ ge=kb:=fun e=>hv.ne.2.1.2.2.2.2 (by rw [←e];rfl)
 obtain ⟨nd,hnd⟩:∃ nd,c3.en.length - ah=nd:=⟨_,rfl⟩;rw [hnd] at hdll;have hndm:nd≤9223372036854775807:=by omega
 have HLD:=Hi hLd;have HDL:=Hi hdl;have HND:=Hi hdll;have HENL:=Hi HC8.out.enl;rw [hdl] at HQ2;clear hc8 hu8 hv hbd hah HEXT HST2 HC1E hlen hLd hdl hdll;go_wp2_with fail
 (try rw [hnd]);clear hnd
 go_loopw [45] (fun vi wr=>∃ i:Nat,i≤nd∧vi = .int .i64 (i:Int)∧Hid (CV (In2 N w wn) lo wr g vs vp vo (.slice (some ⟨ge,0,none⟩) c3.en.length ce) kb ob c3.se c3.pu c3.ou c3.en (c3.kn.dels (dl.take i)) (outF c3.ou) (m+1+nbzs lb2))∧Hid (Upd N w wr)∧Hid (Upd (fun b=>b=kb) w8 wr)) (fun vi _=>nd - (intOf vi).toNat)
 case atStart=>exact ⟨0,by omega,rfl,Hi (by
  have h0:c3.kn.dels (dl.take 0)=c3.kn:=by funext t;simp [Kn.dels]
  rw [h0];exact HV8.out),HU8,Hi (Upd.refl _ _)⟩
 case round=>
  obtain ⟨i,hi,rfl,HV,HU,HK⟩:=hrel;have hv:=HV.out;have d3:wr.cell? ⟨g,3,none⟩=some (.map (some kb)):=hv.blk.cell 3;have d5:wr.cell? ⟨g,5,none⟩=some (.slice (some ⟨ge,0,none⟩) c3.en.length ce):=hv.blk.cell 5;have d5f:wr.frozen? ⟨g,5,none⟩=false:=hv.blk.frozen 5;have hgl2:=hv.blk.lt;by_cases hlt:i < nd
  ·obtain ⟨p,hp⟩:∃ p,dl[i]?=some p:=⟨_,List.getElem?_eq_getElem (by have:=HND.out;omega)⟩;have f1:(dl.map strV)[i]?=some (.string ⟨p.toArray⟩):=by rw [List.getElem?_map,hp];rfl
   obtain ⟨b',o',hbo,hbl,hc1⟩:=(HK.out.lies HLD.out fun b o e _ hx=>by cases e;exact hgk hx).at_ f1;cases hbo;have g1:=hc1 _ _ f1;have hpm:p.length≤maxLen:=HENL.out p (List.mem_of_mem_drop (by rw [HDL.out];exact List.mem_of_getElem? hp));obtain ⟨w9,hrun,hm9,ht9⟩:=hv.mp.del hpm 0;have hz9:Upd (fun b=>b=kb) wr w9:=turned_upd ht9 rfl;have HV9:Hid (CV (In2 N w wn) lo w9 g vs vp vo (.slice (some ⟨ge,0,none⟩) c3.en.length ce) kb ob c3.se c3.pu c3.ou c3.en (c3.kn.dels (dl.take (i+1))) (outF c3.ou) (m+1+nbzs lb2)):=Hi (by
    rw [take_snoc hp,←dels_snoc];exact hv.kn' hz9 hm9 (Nat.le_refl _))
   have HU9:=Hi (in2_upd HU.out (hz9.mono fun b hb=>hb ▸ hv.inN _ (by simp) kb rfl) (by have:=HSN.out;omega));have HK9:=Hi (HK.out.trans hz9);clear hv hc1 f1 hp hm9 ht9 hz9 d5 d5f;go_wp2_with fail
   go_roundw
   case rel=>exact ⟨i+1,by omega,by go_num,HV9,HU9,HK9⟩
   case measure=>simp [intOf];omega
  ·obtain rfl:i=nd:=by omega
   have htk:dl.take i=dl:=List.take_of_length_le (by have:=HND.out;omega);have hv2:=hv;rw [htk] at hv2;have i3:(ah:Int)≤(ce:Int):=by omega
   have hot:=own_take (k:=ah) hv2.oe (by omega) (by simp);have hown:wr.ownsRow lo 9 1 (.slice (some ⟨ge,0,none⟩) ah ce) (c3.en.take ah).length ((c3.en.take ah).map strV):=by
    rw [List.length_take,show min ah c3.en.length=ah by omega,List.map_take];rw [Nat.mul_one] at hot;exact hot
   have hfin:=hv2.ve' (en':=c3.en.take ah) (Upd.refl _ _) hown (.inl rfl);have HEND:=Hi (show StatP N lo w g res (m+1+nbzs l) (.returned (.tuple #[])) (wr.setCell ⟨g,5,none⟩ (.slice (some ⟨ge,0,none⟩) ah ce)) from by
    rw [←HQ2.out];have hb:=HBD.out;have hml:=HML.out;have hsu:=HU.out.size;refine ⟨rfl,⟨⟨vs,vp,vo,_,kb,ob,(hfin.more (show m+1+nbzs lb2≤m+1+nbzs l by omega)).mono fun b hb _ _=>?_⟩,⟨by show c3.se.length≤_;omega,by show c3.pu.length≤_;omega,by show c3.ou.length≤_;omega,by show (c3.en.take ah).length≤_;rw [List.length_take];omega⟩,fun t ht=>HENL.out t (List.mem_of_mem_take ht)⟩,?_⟩
    ·rcases hb with (h | h) | h
     ·exact .inl h.1
     ·exact .inr (by have:=HSN.out;omega)
     ·exact .inr (by omega)
    ·exact in2_upd HU.out ((Upd.refl _ wr).setCell (p:=⟨g,5,none⟩) (fun _=>hv.inN _ (by simp) g rfl) _) (by have:=HSN.out;omega))
   clear hv hv2 hot hown hfin htk d3;go_wp2_with fail
   first | go_end0 | skip
   all_goals first | exact HEND.out | exact bodyPost_ret (results_none rfl _ _ _) rfl HEND.out
end Go.Proofs.YtdhoemlomojfaaaGreatDoor.Nm
namespace Go.Proofs.YtdhoemlomojfaaaGreatDoor.HT
open Go
variable {P : Program} {ops : Array Oper} {Q : Exit → Act → World → Prop} {md : Region.Mode} {Z S : World → Prop} {st : List Nat}
theorem two{i j:Nat}{oi oj:Oper}{f:Nat}{listed:Array Bool}{a:Act}{w:World}(hr:Region.ready md ops listed=[i,j])(hi:ops[i]?=some oi)(hj:ops[j]?=some oj)
  (h1:∀ K:Act→World→Prop,Shut (∀ a' w',Z w'→S w'→anyT P md ops Q Z S st f (listed.setIfInBounds i true) a' w'→K a' w')→if Region.wanted oi (yielded ops a.tmps)=true then Oper.wp P oi a w K Q else K (a.put oi.dst undef) w)
  (h2:∀ K:Act→World→Prop,Shut (∀ a' w',Z w'→S w'→anyT P md ops Q Z S st f (listed.setIfInBounds j true) a' w'→K a' w')→if Region.wanted oj (yielded ops a.tmps)=true then Oper.wp P oj a w K Q else K (a.put oj.dst undef) w):anyT P md ops Q Z S st (f+1) listed a w:=
 ⟨fun h0=>by rw [hr] at h0;(cases h0),fun k hk=>by
  rw [hr] at hk;rcases List.mem_cons.1 hk with rfl | hk
  ·exact wpOp_step hi fun K hK=>h1 K fun a' w' hZ hS hW=>hK a' w' ⟨⟨hZ,fun _=>hS⟩,hW⟩
  ·obtain rfl:=List.mem_singleton.1 hk;exact wpOp_step hj fun K hK=>h2 K fun a' w' hZ hS hW=>hK a' w' ⟨⟨hZ,fun _=>hS⟩,hW⟩⟩
end Go.Proofs.YtdhoemlomojfaaaGreatDoor.HT
namespace Go.Proofs.YtdhoemlomojfaaaGreatDoor.Fl
open Go Go.ChangeShapes Go.WideShapes Go.ChangeAt Go.RowKit Lx Args Pa Sh Go.Proofs.YtdhoemlomojfaaaGreatDoor.Nm
theorem six{q:Prop}{w:World}{z:Tz}{c:List Value}(h:TIc q w z c):c.length = 6:=by
 obtain ⟨_,_,_,_,_,_,_,_,_,_,rfl⟩:=tIz_cells h;rfl
theorem own_blk{w:World}{lo:Nat}{e:TypeId}{size n c g:Nat}{xs:List Value}(h:w.ownsRow lo e size (.slice (some ⟨g,0,none⟩) n c) n xs):∃ cur,Blk w g e cur∧cur.size=c * size∧n≤c:=by
 rcases h.2 with ⟨h2,_⟩ | ⟨g',cap,cur,h3,h4,h5,h6,h7,h8,h9⟩
 ·cases h2
 ·cases h3;exact ⟨cur,h5,h8,h6⟩
end Go.Proofs.YtdhoemlomojfaaaGreatDoor.Fl
