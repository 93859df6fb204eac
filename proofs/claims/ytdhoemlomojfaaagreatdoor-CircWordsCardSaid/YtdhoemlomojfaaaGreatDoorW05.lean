/- DERIVED. CiWo, CiOut. By an AI agent. -/
import Derived.Test.YtdhoemlomojfaaaGreatDoorW01
import Derived.Test.YtdhoemlomojfaaaGreatDoorW03
import Derived.Test.YtdhoemlomojfaaaGreatDoorW04
set_option maxRecDepth 100000
set_option maxHeartbeats 4000000
set_option linter.unusedVariables false
set_option linter.unusedSimpArgs false
namespace Go.Proofs.YtdhoemlomojfaaaGreatDoor.Ci
open Go Go.ChangeShapes Go.WideShapes Go.ChangeAt Go.RowKit Args WMath Word
theorem wG0{S P acc:List (BitVec 32)}{g:Gt}(h:g.k = 0):wG S P acc g=g.n:=by unfold wG;rw [if_pos h]
theorem wG1{S P acc:List (BitVec 32)}{g:Gt}(h:g.k = 1):wG S P acc g=S.getD g.n.toNat 0:=by unfold wG;rw [if_neg (by omega),if_pos h]
theorem wG2{S P acc:List (BitVec 32)}{g:Gt}(h:g.k = 2):wG S P acc g=P.getD g.n.toNat 0:=by unfold wG;rw [if_neg (by omega),if_neg (by omega),if_pos h]
theorem wG3{S P acc:List (BitVec 32)}{g:Gt}(h:3≤g.k):wG S P acc g=mdW g.k (acc.getD g.a.toNat 0) (acc.getD g.b.toNat 0) g.n:=by unfold wG;rw [if_neg (by omega),if_neg (by omega),if_neg (by omega)]
theorem fi_nat{sc pb:Int}{l:List Gt}{i:Nat}{g:Gt}(h:fiB sc pb l i g=true):(∃ a:Nat,g.a=(a:Int)∧a≤i∧(0 < i→a < i))∧(∃ b:Nat,g.b=(b:Int)∧b≤i∧(0 < i→b < i)):=by
 obtain ⟨h1,h2,h3,h4⟩:=fi_ahead h;refine ⟨?_,?_⟩
 ·by_cases ht:0 < tk g.k
  ·exact ⟨g.a.toNat,(h1 ht).2,by have:=(h1 ht).1;omega,fun _=>(h1 ht).1⟩
  ·exact ⟨0,h3 ht,by omega,fun h=>h⟩
 ·by_cases ht:1 < tk g.k
  ·exact ⟨g.b.toNat,(h2 ht).2,by have:=(h2 ht).1;omega,fun _=>(h2 ht).1⟩
  ·exact ⟨0,h4 ht,by omega,fun h=>h⟩
def WsP(w:World)(n:Nat)(ws:List (BitVec 32))(e:Ending)(w':World):Prop:=∃ A c,e = .returned (.slice A n c)∧Lies w' A (ws.map u)∧Below w.heap.size w w'
theorem words(w:World){A:Option Addr}{cA:Nat}{B:Option Addr}{cB:Nat}{l:List Gt}{os:List TI}(hC:Cir w A cA B cB l os){sc pb:Int}(h:caB sc pb l os=true)
  {S P:List (BitVec 32)} {SA PA:Option Addr} {sC pC:Nat} (hS:Lies w SA (S.map u)) (hP:Lies w PA (P.map u)) (hSl:S.length≤9223372036854775807) (hPl:P.length≤9223372036854775807) :
  Calls Tryz.prog 24 #[crV A l.length cA sc pb B os.length cB,.slice SA S.length sC,.slice PA P.length pC] w (WsP w l.length (wsT S P l l.length)):=by
 obtain ⟨w1,hw1,hb1,hX1,hs1⟩:=c_box w (crB A l.length cA sc pb B os.length cB);have hll:=(ca_len h).1;have hmk:=make32 l.length (by omega);obtain ⟨w2,hw2⟩:∃ v,w1.alloc (.cells (rowV l.length []) 35)=v:=⟨_,rfl⟩;have hb2:Below w1.heap.size w1 w2:=by rw [←hw2];exact (Below.refl _ _).alloc (Nat.le_refl _) _
 have hR2:Blk w2 (w.heap.size+1) 35 (rowV l.length []):=by rw [←hw2,←hs1];exact Blk.new _ _ _
 have hs2:w2.heap.size=w.heap.size+2:=by rw [←hw2];simp [hs1]
 have hX2:=hX1.below hb2 hX1.lt;obtain ⟨e0,e1,e2,e3,z0,z1,z2,z3⟩:=Blk.c4 hX1;have hgl:=hX1.lt;have HC:=Hi hC;have HS:=Hi hS;have HP:=Hi hP;have HB2:=Hi (hb1.trans (hb2.mono hb1.size));have HW1:=Hi hw1;have HW2:=Hi hw2;have HX2:=Hi hX2;have HR2:=Hi hR2;have HS2:=Hi hs2;have HS1:=Hi hs1;have HCA:=Hi fun (i:Nat) (g:Gt) (hg:l[i]?=some g)=>ca_fi h hg
 unfold WsP;clear hw1 hb1 hX1 hw2 hb2 hR2 hX2 hC hS hP hs2 h;go_enter Tryz.func24,Tryz.ntmps24;go_upto_region 1 with fail
 rw [HW1.out];go_upto_region 2 with fail
 rw [HW2.out];clear e0 e1 e2 e3 z0 z1 z2 z3 hgl hs1 hmk;obtain ⟨e0,e1,e2,e3,z0,z1,z2,z3⟩:=Blk.c4 HX2.out;have hgl:=HX2.out.lt;go_wp2_with fail
 clear e0 e1 e2 e3 z0 z1 z2 z3 hgl
 go_loopw [17] (fun vi wr=>∃ i:Nat,i≤l.length∧vi = .int .i64 (i:Int)∧Hid (Below w.heap.size w wr)∧Hid (Blk wr w.heap.size 25 (crB A l.length cA sc pb B os.length cB))∧Hid (Blk wr (w.heap.size+1) 35 (rowV l.length (wsT S P l i)))) (fun vi _=>l.length - (intOf vi).toNat)
 case atStart=>exact ⟨0,by omega,rfl,HB2,HX2,HR2⟩
 case round=>
  obtain ⟨i,hi,rfl,HB,HX,HR⟩:=hrel;by_cases hlt:i < l.length;rotate_left
  ·obtain rfl:i=l.length:=by omega
   have HEND:=Hi (rowV_lies (wsT_len (Nat.le_refl _)) HR.out);go_wp2_with fail
   go_ret
   first | exact ⟨HEND.out,HB.out⟩ | exact ⟨_,HEND.out,HB.out⟩ | exact ⟨_,_,HEND.out,HB.out⟩ | exact ⟨_,_,rfl,HEND.out,HB.out⟩
  have hil:(i:Int) < (l.length:Int):=by omega
  obtain ⟨⟨gk,ga,gb,gn,gs⟩,hg⟩:∃ g,l[i]?=some g:=⟨_,List.getElem?_eq_getElem hlt⟩;have hfi:=HCA.out i _ hg;have hk:=(fi_parts hfi).1;obtain ⟨⟨a,ha1,ha2,ha3⟩,⟨b,hb1,hb2,hb3⟩⟩:=fi_nat hfi;dsimp only at hk ha1 hb1;subst ha1 hb1;have hlen:(wsT S P l i).length=i:=wsT_len (by omega);obtain ⟨p,o,rfl,hpl,c0,c1,c2,c3,c4⟩:=(HC.out.below HB.out).gate hg;obtain ⟨w3,hw3,hb3',hY3,hs3⟩:=g_box wr (gB ⟨gk,a,b,gn,gs⟩);have hB3:=HB.out.trans (hb3'.mono HB.out.size);have hX3:=HX.out.below hb3' HX.out.lt;have hR3:=HR.out.below hb3' HR.out.lt;obtain ⟨⟨y0,y1,y2,y3,y4⟩,f0,f1,f2,f3,f4⟩:=Blk.c5 hY3;dsimp only at c0 c1 c2 c3 c4 y0 y1 y2 y3 y4;have hyl:=hY3.lt;have hrl:=hR3.lt;have hfz:=hR3.frozen i;have hci:=(hR3.cell i).trans (rowV_at (n:=l.length) hlt (by omega));have hne:¬ w.heap.size=w.heap.size+1:=by omega
  have hwr1:=HR.out.lt
  -- the round's end,whatever the word
  have HNEXT:=Hi fun (v:World) (hv:Below w3.heap.size w3 v) (x:BitVec 32) (hx:wG S P (wsT S P l i) ⟨gk,a,b,gn,gs⟩=x)=>(show Below w.heap.size w (v.setCell ⟨w.heap.size+1,i,none⟩ (u x))∧Blk (v.setCell ⟨w.heap.size+1,i,none⟩ (u x)) w.heap.size 25 (crB (some ⟨p,o,none⟩) l.length cA sc pb B os.length cB)∧Blk (v.setCell ⟨w.heap.size+1,i,none⟩ (u x)) (w.heap.size+1) 35 (rowV l.length (wsT S P l (i+1))) from by
   have hbv:=hB3.trans (hv.mono hB3.size);refine ⟨hbv.setCell (p:=⟨w.heap.size+1,i,none⟩) (by show w.heap.size≤w.heap.size+1;omega) _,(hX3.below hv hX3.lt).far (p:=⟨w.heap.size+1,i,none⟩) hne _,?_⟩;have:=(hR3.below hv hR3.lt).set i (u x);have e:=rowV_set (n:=l.length) (acc:=wsT S P l i) (by omega) x;rw [hlen] at e;rw [e] at this;rw [wsT_succ hg,hx];exact this)
  have HW3:=Hi (show wr.alloc (.cells #[.int .i64 gk,.int .i64 (a:Int),.int .i64 (b:Int),u gn,.bool gs] 37)=w3 from hw3);have HY3:=Hi hY3;have HR3:=Hi hR3;have HS3:=Hi hs3;have HLN:=Hi hlen;have HS3':=Hi ((HS.out.below HB.out).below hb3');have HP3:=Hi ((HP.out.below HB.out).below hb3');clear hw3 hb3' hX3 hY3 hR3 hs3 hB3 hg hfi hpl;obtain ⟨acc,hacc⟩:∃ acc,wsT S P l i=acc:=⟨_,rfl⟩;have HACC:=Hi hacc;rw [hacc] at hci hlen HNEXT HR3 HLN;have hcn:IntKind.i64.wrap (gn.toNat:Int)=(gn.toNat:Int):=by rw [IntKind.wrap_i64];have:=gn.isLt;omega
  clear hacc;by_cases k0:gk = 0
  ·have HN:=Hi (HNEXT.out w3 (Below.refl _ _) gn (wG0 (g:=⟨gk,a,b,gn,gs⟩) k0));rw [k0] at c0 y0 HW3;go_upto_region 5 with fail
   rw [HW3.out];clear c0 c1 c2 c3 c4;go_wp2_with fail
   go_roundw
   case rel=>exact ⟨i+1,by omega,by go_num,Hi HN.out.1,Hi HN.out.2.1,Hi HN.out.2.2⟩
   case measure=>simp [intOf];omega
  by_cases k1:gk = 1
  ·have HN:=Hi (HNEXT.out w3 (Below.refl _ _) _ (wG1 (g:=⟨gk,a,b,gn,gs⟩) k1));rw [k1] at c0 y0 HW3;have HAT:=Hi (atU w3 SA sC S HS3'.out gn.toNat hSl);generalize S.getD gn.toNat 0=x at HN HAT;go_upto_region 5 with fail
   rw [HW3.out];clear c0 c1 c2 c3 c4;go_wp2_with fail
   refine (show Calls Tryz.prog 35 #[.slice SA S.length sC,.int .i64 (gn.toNat:Int)] w3 _ from HAT.out).mono ?_;rintro e w4 ⟨rfl,rfl⟩;go_wp2_with fail
   go_roundw
   case rel=>exact ⟨i+1,by omega,by go_num,Hi HN.out.1,Hi HN.out.2.1,Hi HN.out.2.2⟩
   case measure=>simp [intOf];omega
  by_cases k2:gk = 2
  ·have HN:=Hi (HNEXT.out w3 (Below.refl _ _) _ (wG2 (g:=⟨gk,a,b,gn,gs⟩) k2));rw [k2] at c0 y0 HW3;have HAT:=Hi (atU w3 PA pC P HP3.out gn.toNat hPl);generalize P.getD gn.toNat 0=x at HN HAT;go_upto_region 5 with fail
   rw [HW3.out];clear c0 c1 c2 c3 c4;go_wp2_with fail
   refine (show Calls Tryz.prog 35 #[.slice PA P.length pC,.int .i64 (gn.toNat:Int)] w3 _ from HAT.out).mono ?_;rintro e w4 ⟨rfl,rfl⟩;go_wp2_with fail
   go_roundw
   case rel=>exact ⟨i+1,by omega,by go_num,Hi HN.out.1,Hi HN.out.2.1,Hi HN.out.2.2⟩
   case measure=>simp [intOf];omega
  have hk3:3≤gk∧gk < 12:=by omega
  have q0:(gk==0)=false:=by simp [k0]
  have q1:(gk==1)=false:=by simp [k1]
  have q2:(gk==2)=false:=by simp [k2]
  have hw3g:=wG3 (S:=S) (P:=P) (acc:=acc) (g:=⟨gk,a,b,gn,gs⟩) hk3.1;simp only [Int.toNat_natCast] at hw3g;have HWG:=Hi hw3g;have hal:(a:Int) < (l.length:Int):=by omega
  have hbl:(b:Int) < (l.length:Int):=by omega
  go_upto_region 5 with fail
  rw [HW3.out];clear c0 c1 c2 c3 c4;go_upto_region 6 with fail
  have hdr:Below w3.heap.size w3 w3.drew:=Below.drew (Below.refl _ _);obtain ⟨wd,hwd⟩:∃ v,w3.drew=v:=⟨_,rfl⟩;rw [hwd] at hdr;have HYd:=Hi (HY3.out.below hdr HY3.out.lt);have HRd:=Hi (HR3.out.below hdr HR3.out.lt);have HDR:=Hi hdr;have HMD:=Hi fun (x y:BitVec 32)=>made wd ⟨gk,a,b,gn,gs⟩ hk3 x y
  have hZ0:Below wd.heap.size wd wd:=Below.refl _ _;have HLA:=Hi (show a < l.length by omega);have HLB:=Hi (show b < l.length by omega);clear hdr y0 y1 y2 y3 y4 f0 f1 f2 f3 f4 hyl hrl hfz hci HW3 HY3 HR3;refine HT.wp_region (Z:=fun w'=>True) (S:=fun w'=>Below wd.heap.size wd w') (st:=[15]) (by kernel_rfl) ?_;rw [hwd];clear hwd;refine HT.tm 0 rfl trivial (fun _=>hZ0) ?_;refine HT.tm 1 rfl trivial (fun _=>hZ0) ?_;refine HT.ts 2 rfl (by intro v hSw;have hy:=HYd.out.below hSw HYd.out.lt;obtain ⟨⟨y0,y1,y2,y3,y4⟩,f0,f1,f2,f3,f4⟩:=Blk.c5 hy;have hyl:=hy.lt;dsimp only at y0 y1 y2 y3 y4;clear hSw hy;go_simp;try with_reducible rfl) trivial hZ0 ?_;refine HT.tm 3 rfl trivial (fun _=>hZ0) ?_;refine HT.tm 4 rfl trivial (fun _=>hZ0) ?_;refine HT.ts 5 rfl (by intro v hSw;have hy:=HYd.out.below hSw HYd.out.lt;obtain ⟨⟨y0,y1,y2,y3,y4⟩,f0,f1,f2,f3,f4⟩:=Blk.c5 hy;have hyl:=hy.lt;dsimp only at y0 y1 y2 y3 y4;clear hSw hy;go_simp;try with_reducible rfl) trivial hZ0 ?_;refine HT.tm 6 rfl trivial (fun _=>hZ0) ?_;refine HT.ts 7 rfl (by intro v hSw;have hy:=HRd.out.below hSw HRd.out.lt;have hc:=(hy.cell a).trans (rowV_at (n:=l.length) HLA.out (by have:=HLN.out;omega));have hyl:=hy.lt;clear hSw hy;go_simp;try with_reducible rfl) trivial hZ0 ?_;refine HT.tm 8 rfl trivial (fun _=>hZ0) ?_;refine HT.tm 9 rfl trivial (fun _=>hZ0) ?_;refine HT.ts 10 rfl (by intro v hSw;have hy:=HYd.out.below hSw HYd.out.lt;obtain ⟨⟨y0,y1,y2,y3,y4⟩,f0,f1,f2,f3,f4⟩:=Blk.c5 hy;have hyl:=hy.lt;dsimp only at y0 y1 y2 y3 y4;clear hSw hy;go_simp;try with_reducible rfl) trivial hZ0 ?_;refine HT.tm 11 rfl trivial (fun _=>hZ0) ?_;refine HT.ts 12 rfl (by intro v hSw;have hy:=HRd.out.below hSw HRd.out.lt;have hc:=(hy.cell b).trans (rowV_at (n:=l.length) HLB.out (by have:=HLN.out;omega));have hyl:=hy.lt;clear hSw hy;go_simp;try with_reducible rfl) trivial hZ0 ?_;refine HT.one (i:=13) (by kernel_rfl) rfl (fun K hK=>?_);go_simp;refine (show Calls Tryz.prog 36 #[.agg #[.int .i64 gk,.int .i64 (a:Int),.int .i64 (b:Int),u gn,.bool gs],u (acc.getD a 0),u (acc.getD b 0)] wd _ from HMD.out (acc.getD a 0) (acc.getD b 0)).mono ?_;rintro e w5 ⟨rfl,hb5⟩;(try dsimp only);refine hK.out _ _ trivial hb5 ?_;clear hK K;(try simp only [HT.pS]);refine HT.tm 14 rfl trivial (fun _=>hb5) ?_;have HN:=Hi (HNEXT.out w5 (HDR.out.trans (hb5.mono HDR.out.size)) _ HWG.out);have hR5:=HRd.out.below hb5 HRd.out.lt;have hrl:=hR5.lt;have hfz:=hR5.frozen i;have hci:=(hR5.cell i).trans (rowV_at (n:=l.length) hlt (by have:=HLN.out;omega));clear hR5;refine HT.oneS (i:=15) (by kernel_rfl) (by kernel_rfl) rfl (fun K hK=>?_);go_simp;(try dsimp only);refine hK.out _ _ trivial ?_;clear hK K;(try simp only [HT.pS]);refine HT.done (by kernel_rfl) ?_;clear hZ0 hb5 hrl hfz hci;go_wp2_with fail
  go_roundw
  case rel=>exact ⟨i+1,by omega,by go_num,Hi HN.out.1,Hi HN.out.2.1,Hi HN.out.2.2⟩
  case measure=>simp [intOf];omega
theorem Words(w:World){A:Option Addr}{cA:Nat}{B:Option Addr}{cB:Nat}{l:List Gt}{os:List TI}(hC:Cir w A cA B cB l os)(sc pb:Int)
  {S P:List (BitVec 32)} {SA PA:Option Addr} {sC pC:Nat} (hS:Lies w SA (S.map u)) (hP:Lies w PA (P.map u)) (hSl:S.length≤9223372036854775807) (hPl:P.length≤9223372036854775807) :
  Calls Tryz.prog 13 #[crV A l.length cA sc pb B os.length cB,.slice SA S.length sC,.slice PA P.length pC] w (WsP w (woL S P sc pb l os).length (woL S P sc pb l os)):=by
 obtain ⟨w1,hw1,hb1,hX1,hs1⟩:=c_box w (crB A l.length cA sc pb B os.length cB);obtain ⟨e0,e1,e2,e3,z0,z1,z2,z3⟩:=Blk.c4 hX1;have hgl:=hX1.lt;have HB:=Hi hb1;have HW:=Hi hw1;have HX:=Hi hX1;have HCAN:=Hi (can w1 (hC.below hb1) sc pb);have HWS:=Hi fun (h:caB sc pb l os=true) (v:World) (hv:Below w1.heap.size w1 v)=>words v ((hC.below hb1).below hv) h (sC:=sC) (pC:=pC) ((hS.below hb1).below hv) ((hP.below hb1).below hv) hSl hPl
 unfold WsP BoP at *;clear hw1 hb1 hX1 hs1 hC hS hP;by_cases h:caB sc pb l os=true
 ·have hwo:woL S P sc pb l os=wsT S P l l.length:=if_pos h;have HLEN:=Hi (wsT_len (S:=S) (P:=P) (l:=l) (Nat.le_refl _));rw [hwo,HLEN.out];have HWS:=Hi (HWS.out h);rw [h] at HCAN;generalize wsT S P l l.length=ws at HWS ⊢;clear hwo h;go_enter Tryz.func13,Tryz.ntmps13;go_upto_region 1 with fail
  rw [HW.out];go_wp2_with fail
  refine (show Calls Tryz.prog 6 #[crV A l.length cA sc pb B os.length cB] w1 _ from HCAN.out).mono ?_;rintro e w2 ⟨rfl,hb2⟩;have hX2:=HX.out.below hb2 HX.out.lt;have HW2:=Hi (HWS.out w2 hb2);have HB2:=Hi (HB.out.trans (hb2.mono HB.out.size));clear e0 e1 e2 e3 z0 z1 z2 z3 hgl hb2;obtain ⟨e0,e1,e2,e3,z0,z1,z2,z3⟩:=Blk.c4 hX2;have hgl:=hX2.lt;clear hX2;go_wp2_with fail
  refine (show Calls Tryz.prog 24 #[crV A l.length cA sc pb B os.length cB,.slice SA S.length sC,.slice PA P.length pC] w2 _ from HW2.out).mono ?_;rintro e w3 ⟨A',c',rfl,hL,hb3⟩;have HEND:=Hi (HB2.out.trans (hb3.mono HB2.out.size));have HL:=Hi hL;clear hL hb3;go_wp2_with fail
  go_ret;exact ⟨A',c',rfl,HL.out,HEND.out⟩
 ·have h':caB sc pb l os=false:=by simpa using h
  have hwo:woL S P sc pb l os=[]:=if_neg h;rw [hwo];rw [h'] at HCAN;clear hwo h h' HWS;go_enter Tryz.func13,Tryz.ntmps13;go_upto_region 1 with fail
  rw [HW.out];go_wp2_with fail
  refine (show Calls Tryz.prog 6 #[crV A l.length cA sc pb B os.length cB] w1 _ from HCAN.out).mono ?_;rintro e w2 ⟨rfl,hb2⟩;have HB2:=Hi (HB.out.trans (hb2.mono HB.out.size));clear hb2;go_wp2_with fail
  go_ret;exact ⟨none,0,rfl,Lies.nil _ _,HB2.out⟩
theorem map_take{α β:Type}(f:α→β){l:List α}{i:Nat}{x:α}(h:l[i]?=some x):(l.take (i+1)).map f=(l.take i).map f ++ [f x]:=by
 obtain ⟨hi,rfl⟩:=List.getElem?_eq_some_iff.1 h;rw [List.take_succ_eq_append_getElem hi,List.map_append];rfl
theorem Outs(w:World){A:Option Addr}{cA:Nat}{B:Option Addr}{cB:Nat}{l:List Gt}{os:List TI}(hC:Cir w A cA B cB l os)(sc pb:Int)
  {S P:List (BitVec 32)} {SA PA:Option Addr} {sC pC:Nat} (hS:Lies w SA (S.map u)) (hP:Lies w PA (P.map u)) (hSl:S.length≤9223372036854775807) (hPl:P.length≤9223372036854775807) (hos:os.length≤16000) :
  Calls Tryz.prog 15 #[crV A l.length cA sc pb B os.length cB,.slice SA S.length sC,.slice PA P.length pC] w (WsP w (ouL S P sc pb l os).length (ouL S P sc pb l os)):=by
 obtain ⟨w1,hw1,hb1,hX1,hs1⟩:=c_box w (crB A l.length cA sc pb B os.length cB);obtain ⟨e0,e1,e2,e3,z0,z1,z2,z3⟩:=Blk.c4 hX1;have hgl:=hX1.lt;have HB:=Hi hb1;have HW:=Hi hw1;have HX:=Hi hX1;have HCAN:=Hi (can w1 (hC.below hb1) sc pb);have HC:=Hi (hC.below hb1);have HWS:=Hi fun (h:caB sc pb l os=true) (v:World) (hv:Below w1.heap.size w1 v)=>words v ((hC.below hb1).below hv) h (sC:=sC) (pC:=pC) ((hS.below hb1).below hv) ((hP.below hb1).below hv) hSl hPl
 unfold WsP BoP at *;clear hw1 hb1 hX1 hs1 hC hS hP;by_cases h:caB sc pb l os=true;rotate_left
 ·have h':caB sc pb l os=false:=by simpa using h
  have hwo:ouL S P sc pb l os=[]:=if_neg h;rw [hwo];rw [h'] at HCAN;clear hwo h h' HWS HC;go_enter Tryz.func15,Tryz.ntmps15;go_upto_region 1 with fail
  rw [HW.out];go_wp2_with fail
  refine (show Calls Tryz.prog 6 #[crV A l.length cA sc pb B os.length cB] w1 _ from HCAN.out).mono ?_;rintro e w2 ⟨rfl,hb2⟩;have HB2:=Hi (HB.out.trans (hb2.mono HB.out.size));clear hb2;go_wp2_with fail
  go_ret;exact ⟨none,0,rfl,Lies.nil _ _,HB2.out⟩
 have hwo:ouL S P sc pb l os=os.map fun o=>(wsT S P l l.length).getD o.n.toNat 0:=if_pos h
 have hlen:=wsT_len (S:=S) (P:=P) (l:=l) (Nat.le_refl _);rw [hwo,List.length_map];have HWS:=Hi (HWS.out h);have HIN:=Hi fun (o:TI) (ho:o∈os)=>ca_out h ho
 have hll:=(ca_len h).1;rw [h] at HCAN;generalize wsT S P l l.length=ws at HWS hlen ⊢;clear hwo h;have hmk:=make32 os.length hos;go_enter Tryz.func15,Tryz.ntmps15;go_upto_region 1 with fail
 rw [HW.out];go_wp2_with fail
 refine (show Calls Tryz.prog 6 #[crV A l.length cA sc pb B os.length cB] w1 _ from HCAN.out).mono ?_;rintro e w2 ⟨rfl,hb2⟩;have hX2:=HX.out.below hb2 HX.out.lt;have HX2:=Hi hX2;have HW2:=Hi (HWS.out w2 hb2);have HB2:=Hi (HB.out.trans (hb2.mono HB.out.size));have HC2:=Hi (HC.out.below hb2);clear e0 e1 e2 e3 z0 z1 z2 z3 hgl hb2;obtain ⟨e0,e1,e2,e3,z0,z1,z2,z3⟩:=Blk.c4 hX2;have hgl:=hX2.lt;clear hX2;go_wp2_with fail
 refine (show Calls Tryz.prog 24 #[crV A l.length cA sc pb B os.length cB,.slice SA S.length sC,.slice PA P.length pC] w2 _ from HW2.out).mono ?_;rintro e w3 ⟨A',c',rfl,hL,hb3⟩;have hX3:=HX2.out.below hb3 HX2.out.lt;obtain ⟨w4,hw4⟩:∃ v,w3.alloc (.cells (rowV os.length []) 35)=v:=⟨_,rfl⟩;have hb4:Below w3.heap.size w3 w4:=by rw [←hw4];exact (Below.refl _ _).alloc (Nat.le_refl _) _
 have HR4:=Hi (show Blk w4 w3.heap.size 35 (rowV os.length []) by rw [←hw4];exact Blk.new _ _ _);have HX4:=Hi (hX3.below hb4 hX3.lt);have HC3:=Hi (HC2.out.below hb3);have HL3:=Hi hL;have HB34:=Hi hb4;have h3:=HB2.out.trans (hb3.mono HB2.out.size);have HB4:=Hi (h3.trans (hb4.mono h3.size));have HLT:=Hi (show w.heap.size < w3.heap.size from hX3.lt);have HW4:=Hi hw4;clear e0 e1 e2 e3 z0 z1 z2 z3 hgl hw4 hb4 hL h3;obtain ⟨e0,e1,e2,e3,z0,z1,z2,z3⟩:=Blk.c4 hX3;have hgl:=hX3.lt;clear hX3 hb3;go_upto_region 5 with fail
 rw [HW4.out];clear e0 e1 e2 e3 z0 z1 z2 z3 hgl hmk;obtain ⟨e0,e1,e2,e3,z0,z1,z2,z3⟩:=Blk.c4 HX4.out;have hgl:=HX4.out.lt;go_wp2_with fail
 clear e0 e1 e2 e3 z0 z1 z2 z3 hgl;obtain ⟨q,hq⟩:∃ q,w3.heap.size=q:=⟨_,rfl⟩;have HQ:=Hi hq;rw [hq] at HR4 HLT HB34;simp only [hq];clear hq
 go_loopw [25] (fun vi wr=>∃ i:Nat,i≤os.length∧vi = .int .i64 (i:Int)∧Hid (Below w.heap.size w wr)∧Hid (Below q w3 wr)∧Hid (Blk wr q 35 (rowV os.length ((os.take i).map fun o=>ws.getD o.n.toNat 0)))) (fun vi _=>os.length - (intOf vi).toNat)
 case atStart=>exact ⟨0,by omega,rfl,HB4,HB34,HR4⟩
 case round=>
  obtain ⟨i,hi,rfl,HB,HB3,HR⟩:=hrel;have hb3r:Below w3.heap.size w3 wr:=by rw [HQ.out];exact HB3.out
  have hCr:=HC3.out.below hb3r;have hLr:=HL3.out.below hb3r;by_cases hlt:i < os.length;rotate_left
  ·obtain rfl:i=os.length:=by omega
   have HEND:=Hi (rowV_lies (by rw [List.take_length];simp) HR.out);rw [List.take_length] at HEND;go_wp2_with fail
   go_ret
   first | exact ⟨HEND.out,HB.out⟩ | exact ⟨_,HEND.out,HB.out⟩ | exact ⟨_,_,HEND.out,HB.out⟩ | exact ⟨_,_,rfl,HEND.out,HB.out⟩
  have hil:(i:Int) < (os.length:Int):=by omega
  obtain ⟨⟨s,n⟩,ho⟩:∃ o,os[i]?=some o:=⟨_,List.getElem?_eq_getElem hlt⟩;obtain ⟨hn0,hn1⟩:=HIN.out _ (List.mem_of_getElem? ho);dsimp only at hn0 hn1;obtain ⟨m,rfl⟩:∃ m:Nat,n=(m:Int):=⟨n.toNat,by omega⟩;have hml:m < l.length:=by omega
  obtain ⟨p,o,rfl,hpl,c0,c1⟩:=hCr.out ho;dsimp only at c0 c1;obtain ⟨w5,hw5,hb5,hY5,hs5⟩:=o_box wr (oB ⟨s,(m:Int)⟩);have f1:(ws.map u)[m]?=some (u (ws.getD m 0)):=by
   rw [List.getElem?_map,List.getElem?_eq_getElem (by omega),List.getD_eq_getElem?_getD,List.getElem?_eq_getElem (by omega)];rfl
  obtain ⟨pb',po,rfl,hpb,hcw⟩:=(hLr.below hb5).at_ f1;have d0:=hcw _ _ f1;have hR5:=HR.out.below hb5 HR.out.lt;obtain ⟨y0,y1,g0,g1⟩:=Blk.c2 hY5;dsimp only at y0 y1;have hyl:=hY5.lt;have hrl:=hR5.lt;have hal:((os.take i).map fun o=>ws.getD o.n.toNat 0).length=i:=by simp;omega
  have hfz:=hR5.frozen i;have hci:=(hR5.cell i).trans (rowV_at (n:=os.length) hlt (by omega));obtain ⟨x,hx⟩:∃ x,ws.getD m 0=x:=⟨_,rfl⟩;rw [hx] at d0 f1;have hmi:(m:Int) < (l.length:Int):=by omega
  have HB5:=HB.out.trans (hb5.mono HB.out.size);have N1:=Hi (HB5.setCell (p:=⟨q,i,none⟩) (Nat.le_of_lt HLT.out) (u x));have N2:=Hi ((HB3.out.trans (hb5.mono (by have:=HR.out.lt;omega))).setCell (p:=⟨q,i,none⟩) (Nat.le_refl _) (u x));have N3:=Hi (show Blk (w5.setCell ⟨q,i,none⟩ (u x)) q 35 (rowV os.length ((os.take (i+1)).map fun o=>ws.getD o.n.toNat 0)) from by
   have hset:=hR5.set i (u x);have e:=rowV_set (n:=os.length) (acc:=(os.take i).map fun o=>ws.getD o.n.toNat 0) (by omega) x;rw [hal] at e;rw [e] at hset;rw [map_take _ ho];simp only [Int.toNat_natCast];rw [hx];exact hset)
  have HW5:=Hi (show wr.alloc (.cells #[.string s,.int .i64 (m:Int)] 43)=w5 from hw5);clear hw5 hb5 hY5 hR5 hs5 hcw f1 hx ho hCr hLr hb3r HB5 hal hlen hn0 hn1;go_upto_region 8 with fail
  rw [HW5.out];clear c0 c1 hpl;go_wp2_with fail
  go_roundw
  case rel=>exact ⟨i+1,by omega,by go_num,N1,N2,N3⟩
  case measure=>simp [intOf];omega
end Go.Proofs.YtdhoemlomojfaaaGreatDoor.Ci
