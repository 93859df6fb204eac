/- DERIVED. CiRW, CiRO. By an AI agent. -/
import Derived.Test.YtdhoemlomojfaaaGreatDoorW01
import Derived.Test.YtdhoemlomojfaaaGreatDoorW06
import Derived.Deep.CutBlock
import Derived.Test.YtdhoemlomojfaaaGreatDoorW50
import Derived.Test.YtdhoemlomojfaaaGreatDoorW13
import Derived.Test.YtdhoemlomojfaaaGreatDoorW19
import Derived.Test.YtdhoemlomojfaaaGreatDoorW43
set_option maxRecDepth 100000
set_option maxHeartbeats 4000000
set_option linter.unusedVariables false
set_option linter.unusedSimpArgs false
namespace Go.Proofs.YtdhoemlomojfaaaGreatDoor.Ci
open Go Go.ChangeShapes Go.WideShapes Go.ChangeAt Go.RowKit Lx Args Pa Sh Go.Proofs.YtdhoemlomojfaaaGreatDoor.Nm WMath Word Fl
theorem wpListAny{P:Program}{w:World}{ops:Array Oper}{rest:List Oper}{o:Oper}{a:Act}{Q:Exit→Act→World→Prop}(hgd:o.guard=none)(s x:Operand)(t:TypeId)
  (ho:o.op = .call { callee:=.builtin .append,args:=#[s,x],argTypes:=#[t,t] })
  (base:Nat) (e:TypeId) (i:TypeInfo) (z:Value) (size bytes:Nat) (ht:P.underlying t=some (.slice e)) (hi:P.info? e=some i) (hz:i.zero=some z)
  (hsize:i.size=size) (hby:i.bytes=bytes) (hzs:z.cells.size=size) (hsz:0 < size) (v:Value) (n:Nat) (xs:List Value) (hs:a.eval s=v) (hown:w.ownsRow base e size v n xs)
  (A:Option Addr) (m d:Nat) (news:List Value) (hx:a.eval x = .slice A m d) (hl:news.length=m * size) (hL:Lies w A news) (h1:∀ u∈news,u.oneCell'=true) (h63:n+m≤maxLen) (hbytes:(n+m) * bytes≤140737488355328) (hbase:base≤w.heap.size)
  (h:∀ v' w',w'.ownsRow base e size v' (n+m) (xs ++ news)→w.grownBy w' v.ownBlock→(v'.ownBlock=v.ownBlock∨v'.ownBlock=some w.heap.size)→wpList P ops Q rest (a.put o.dst v') w'):wpList P ops Q (o :: rest) a w:=
 wpList_plain hgd fun _ hK=>by
  obtain ⟨v',w',hrun,h2,h3,h4⟩:=run_app_any (P:=P) base t o.type e i z size bytes ht hi hz hsize hby hzs hsz v n xs hown A m d news hl hL h1 h63 hbytes hbase;unfold Oper.wp execOp;simp only [ho,resolve,invoke,builtin,Sem.run_bind,Sem.run_pure,Result.andThen_ok,List.map_toArray,List.map_cons,List.map_nil,hs,hx,hrun];exact hK _ _ (h v' w' h2 h3 h4)
theorem rat(w:World)(A:Option Addr)(c:Nat)(ws:List (BitVec 32))(hL:Lies w A (ws.map u))(n:BitVec 32)(hl:ws.length≤9223372036854775807) :
  Calls Tryz.prog 25 #[.slice A ws.length c,u n] w fun e w'=>e = .returned (u (ws.getD n.toNat 0))∧w'=w:=by
 have hcn:IntKind.i64.wrap (n.toNat:Int)=(n.toNat:Int):=by rw [IntKind.wrap_i64];have:=n.isLt;omega
 have hnl:=n.isLt;by_cases hlt:n.toNat < ws.length
 ·obtain ⟨x,hx⟩:∃ x,ws[n.toNat]?=some x:=⟨_,List.getElem?_eq_getElem hlt⟩;have f1:(ws.map u)[n.toNat]?=some (u x):=by rw [List.getElem?_map,hx];rfl
  obtain ⟨b,o,rfl,_,hc1⟩:=hL.at_ f1;have e1:=hc1 _ _ f1;have hr:ws.getD n.toNat 0=x:=by rw [List.getD_eq_getElem?_getD,hx];rfl
  rw [hr];have hil:(n.toNat:Int) < (ws.length:Int):=by omega
  clear hL hc1 f1 hx hr;go_enter Tryz.func25,Tryz.ntmps25;go_wp2_with fail
  go_ret;exact ⟨rfl,rfl⟩
 ·have hr:ws.getD n.toNat 0 = 0:=by rw [List.getD_eq_getElem?_getD,List.getElem?_eq_none (by omega)];rfl
  rw [hr];have hil:decide ((n.toNat:Int) < (ws.length:Int))=false:=decide_eq_false (by omega);clear hL hr;go_enter Tryz.func25,Tryz.ntmps25;go_wp2_with fail
  go_ret;exact ⟨rfl,rfl⟩
theorem not_w(x:BitVec 32):4294967295 - (x.toNat:Int)=((~~~x).toNat:Int):=by
 rw [BitVec.toNat_not];have:=x.isLt;omega
theorem rwords(w:World){A:Option Addr}{cA:Nat}{B:Option Addr}{cB:Nat}{l:List Gt}{os:List TI}(hC:Cir w A cA B cB l os)(sc pb:Int)
  {S P:List (BitVec 32)} {SA PA:Option Addr} {sC pC:Nat} (hS:Lies w SA (S.map u)) (hP:Lies w PA (P.map u)) (hSl:S.length≤9223372036854775807) (hPl:P.length≤9223372036854775807) :
  Calls Tryz.prog 14 #[crV A l.length cA sc pb B os.length cB,.slice SA S.length sC,.slice PA P.length pC] w (WsP w (woL S P sc pb l os).length (woL S P sc pb l os)):=by
 obtain ⟨w1,hw1,hb1,hX1,hs1⟩:=c_box w (crB A l.length cA sc pb B os.length cB);obtain ⟨w2,hw2⟩:∃ v,w1.alloc (.cells #[] 35)=v:=⟨_,rfl⟩;have hb2:Below w1.heap.size w1 w2:=by rw [←hw2];exact (Below.refl _ _).alloc (Nat.le_refl _) _
 have hb12:=hb1.trans (hb2.mono hb1.size);have hX2:=hX1.below hb2 hX1.lt;have hs2:w2.heap.size=w.heap.size+2:=by rw [←hw2];simp [hs1]
 have hO2:w2.ownsRow (w.heap.size+1) 35 1 (.slice (some ⟨w.heap.size+1,0,none⟩) 0 0) 0 []:=by
  rw [←hs1,←hw2];exact own_full w1 (Nat.le_refl _) 35 1 0 [] rfl (by decide)
 obtain ⟨e0,e1,e2,e3,z0,z1,z2,z3⟩:=Blk.c4 hX2;have hgl:=hX2.lt;have HB:=Hi hb12;have HW1:=Hi hw1;have HW2:=Hi hw2;have HX2:=Hi hX2;have HO2:=Hi hO2;have HS1:=Hi hs1;have HC:=Hi (hC.below hb12);have HS:=Hi (hS.below hb12);have HP:=Hi (hP.below hb12);have HCAN:=Hi (rcan w2 (hC.below hb12) sc pb);have HCW:=Hi hC;have HSW:=Hi hS;have HPW:=Hi hP;unfold WsP BoP at *;clear hw1 hb1 hX1 hs1 hC hS hP hw2 hb2 hb12 hX2 hO2;have HC0:=HC;have HS0:=HS;have HP0:=HP;have HSH0:=Hi fun (v:World) (x n:BitVec 32)=>(show Calls Tryz.prog 26 #[.int .i64 0,u x,u n,.bool false] v fun e w'=>(∃ c,e = .returned (.tuple #[u (shV 0 x n.toNat),.bool c]))∧Below v.heap.size v w' from (Co.rsh0 x n.toNat n.isLt false v).mono fun e w' h=>⟨⟨_,h.1⟩,h.2⟩)
 have HSH1:=Hi fun (v:World) (x n:BitVec 32)=>(show Calls Tryz.prog 26 #[.int .i64 1,u x,u n,.bool false] v fun e w'=>(∃ c,e = .returned (.tuple #[u (shV 1 x n.toNat),.bool c]))∧Below v.heap.size v w' from (Co.rsh1 x n.toNat n.isLt false v).mono fun e w' h=>⟨⟨_,h.1⟩,h.2⟩)
 have HRO:=Hi fun (v:World) (x n:BitVec 32)=>(show Calls Tryz.prog 27 #[u x,u n] v fun e w'=>e = .returned (u (x.rotateLeft n.toNat))∧Below v.heap.size v w' from Ref.rrotC x n.toNat n.isLt v)
 obtain ⟨j0,hj,hy0,hy1,hy2⟩:=info_parts infoU;have HJ:=Hi hj;have HY0:=Hi hy0;have HY1:=Hi hy1;have HY2:=Hi hy2;clear hj hy0 hy1 hy2;by_cases h:caB sc pb l os=true;rotate_left
 ·have h':caB sc pb l os=false:=by simpa using h
  have hwo:woL S P sc pb l os=[]:=if_neg h;rw [hwo];rw [h'] at HCAN;clear hwo h h';go_enter Tryz.func14,Tryz.ntmps14;go_upto_region 1 with fail
  rw [HW1.out];go_upto_region 2 with fail
  simp only [HS1.out];rw [HW2.out];go_wp2_with fail
  refine (show Calls Tryz.prog 8 #[crV A l.length cA sc pb B os.length cB] w2 _ from HCAN.out).mono ?_;rintro e w3 ⟨rfl,hb3⟩;have HEND:=Hi (HB.out.trans (hb3.mono HB.out.size));clear hb3;go_wp2_with fail
  go_ret;exact ⟨_,_,rfl,Lies.nil _ _,HEND.out⟩
 have hwo:woL S P sc pb l os=wsT S P l l.length:=if_pos h;have hlen:=wsT_len (S:=S) (P:=P) (l:=l) (Nat.le_refl _);rw [hwo,hlen];have hll:=(ca_len h).1;have HCA:=Hi fun (i:Nat) (g:Gt) (hg:l[i]?=some g)=>ca_fi h hg
 rw [h] at HCAN;clear hwo h hlen;go_enter Tryz.func14,Tryz.ntmps14;go_upto_region 1 with fail
 rw [HW1.out];go_upto_region 2 with fail
 simp only [HS1.out];rw [HW2.out];go_wp2_with fail
 refine (show Calls Tryz.prog 8 #[crV A l.length cA sc pb B os.length cB] w2 _ from HCAN.out).mono ?_;rintro e w3 ⟨rfl,hb3⟩;have HB3:=Hi (HB.out.trans (hb3.mono HB.out.size));have HB23:=Hi hb3;have HX3:=Hi (HX2.out.below hb3 HX2.out.lt);have HO3:=Hi (Nm.own_updV HO2.out (Upd.of_below hb3 fun _=>False) fun _ _=>id);have hs3:w.heap.size+2≤w3.heap.size:=by have:=hb3.size;omega
 clear hb3 e0 e1 e2 e3 z0 z1 z2 z3 hgl;obtain ⟨e0,e1,e2,e3,z0,z1,z2,z3⟩:=Blk.c4 HX3.out;have hgl:=HX3.out.lt;go_wp2_with fail
 clear e0 e1 e2 e3 z0 z1 z2 z3 hgl
 go_loopw [7,8] (fun v7 v8 wr=>∃ (i c:Nat) (A':Option Addr),i≤l.length∧v8 = .int .i64 (i:Int)∧v7 = .slice A' i c∧Hid (Below w2.heap.size w2 w2)∧Hid (Below w.heap.size w wr)∧Hid (wr.ownsRow (w.heap.size+1) 35 1 (.slice A' i c) i ((wsT S P l i).map u))∧Hid (Blk wr w.heap.size 25 (crB A l.length cA sc pb B os.length cB))∧Hid (w.heap.size+2≤wr.heap.size∧Cir wr A cA B cB l os∧Lies wr SA (S.map u)∧Lies wr PA (P.map u))) (fun _ vi _=>l.length - (intOf vi).toNat)
 case atStart=>exact ⟨0,0,_,by omega,rfl,rfl,Hi (Below.refl _ _),HB3,HO3,HX3,Hi ⟨hs3,HC.out.below HB23.out,HS.out.below HB23.out,HP.out.below HB23.out⟩⟩
 case round=>
  obtain ⟨i,c,A',hi,rfl,rfl,-,HBr,HOr,HXr,HFr⟩:=hrel;by_cases hlt:i < l.length;rotate_left
  ·obtain rfl:i=l.length:=by omega
   have HEND:=Hi (lies_own HOr.out);have hXr:=HXr.out;obtain ⟨e0,e1,e2,e3,z0,z1,z2,z3⟩:=Blk.c4 hXr;have hgl:=hXr.lt;clear hXr;go_wp2_with fail
   go_ret
   first | exact ⟨HEND.out,HBr.out⟩ | exact ⟨_,HEND.out,HBr.out⟩ | exact ⟨_,_,HEND.out,HBr.out⟩ | exact ⟨_,_,rfl,HEND.out,HBr.out⟩
  have hil:(i:Int) < (l.length:Int):=by omega
  obtain ⟨⟨gk,ga,gb,gn,gs⟩,hg⟩:∃ g,l[i]?=some g:=⟨_,List.getElem?_eq_getElem hlt⟩;have hfi:=HCA.out i _ hg;have hk:=(fi_parts hfi).1;obtain ⟨⟨a,ha1,ha2,ha3⟩,⟨b,hb1,hb2,hb3⟩⟩:=fi_nat hfi;dsimp only at hk ha1 hb1;subst ha1 hb1;have hlen:(wsT S P l i).length=i:=wsT_len (by omega);obtain ⟨p,o,rfl,hpl,c0,c1,c2,c3,c4⟩:=HFr.out.2.1.gate hg;obtain ⟨w4,hw4,hb4,hY4,hs4⟩:=g_box wr (gB ⟨gk,a,b,gn,gs⟩);have hXr:=HXr.out;obtain ⟨e0,e1,e2,e3,z0,z1,z2,z3⟩:=Blk.c4 hXr;have hgl:=hXr.lt;obtain ⟨⟨y0,y1,y2,y3,y4⟩,f0,f1,f2,f3,f4⟩:=Blk.c5 hY4;dsimp only at c0 c1 c2 c3 c4 y0 y1 y2 y3 y4;have hyl:=hY4.lt;have HY4:=Hi hY4;have HB4:=Hi hb4;have HW4:=Hi (show wr.alloc (.cells #[.int .i64 gk,.int .i64 (a:Int),.int .i64 (b:Int),u gn,.bool gs] 37)=w4 from hw4);have hO4:=Nm.own_updV HOr.out (Upd.of_below hb4 fun _=>False) fun _ _=>id
  have HO4:=Hi hO4;have HG:=Hi hg;have HK:=Hi hk;obtain ⟨acc,hacc⟩:∃ acc,wsT S P l i=acc:=⟨_,rfl⟩;have HACC:=Hi hacc;rw [hacc] at hlen HO4;have HNX:=Hi (show ∀ x,wG S P acc ⟨gk,a,b,gn,gs⟩=x→wsT S P l (i+1)=acc ++ [x] from fun x hx=>by rw [wsT_succ hg,hacc,hx]);clear hw4 hY4 hs4 hb4 hg hfi hacc hXr hO4;go_upto_region 8 with fail
  rw [HW4.out];clear c0 c1 c2 c3 c4 e0 e1 e2 e3 z0 z1 z2 z3 hgl;go_upto_region 9 with fail
  go_upto_if 31 with fail
  go_cut [11,12] from 32 to 41 (fun s11 s12 wx=>s11=u (acc.getD a 0)∧s12=u (acc.getD b 0)∧Hid (Below w4.heap.size w4 wx))
  case first=>
   by_cases hi0:i = 0
   ·have hz:decide ((0:Int) < (i:Int))=false:=decide_eq_false (by omega);have hac:acc=[]:=List.eq_nil_of_length_eq_zero (by omega);have HAC:=Hi hac;clear hac;have hin:¬ 0 < i:=by omega
    go_wp2_with fail
    go_meet
    rw [HAC.out];exact ⟨rfl,rfl,Hi (Below.refl _ _)⟩
   ·have hz:decide ((0:Int) < (i:Int))=true:=decide_eq_true (by omega);have hin:0 < i:=by omega
    have hai:=ha3 hin;have hbi:=hb3 hin;have g1:(acc.map u)[a]?=some (u (acc.getD a 0)):=by rw [List.getElem?_map,List.getElem?_eq_getElem (by omega),List.getD_eq_getElem?_getD,List.getElem?_eq_getElem (by omega)];rfl
    have g2:(acc.map u)[b]?=some (u (acc.getD b 0)):=by rw [List.getElem?_map,List.getElem?_eq_getElem (by omega),List.getD_eq_getElem?_getD,List.getElem?_eq_getElem (by omega)];rfl
    obtain ⟨q,r,rfl,hql,hcw⟩:=(lies_own HO4.out).at_ g1;have k1:=hcw _ _ g1;have k2:=hcw _ _ g2;obtain ⟨xa,hxa⟩:∃ x,acc.getD a 0=x:=⟨_,rfl⟩;obtain ⟨xb,hxb⟩:∃ x,acc.getD b 0=x:=⟨_,rfl⟩;rw [hxa] at k1;rw [hxb] at k2;have HXA:=Hi hxa;have HXB:=Hi hxb;have hai':(a:Int) < (i:Int):=by omega
    have hbi':(b:Int) < (i:Int):=by omega
    clear hcw g1 g2 hxa hxb;go_wp2_with fail
    go_quiet (fail)
    go_wp2_with fail
    go_meet
    rw [HXA.out,HXB.out];exact ⟨rfl,rfl,Hi (Upd.below (drewU (fun _=>False) _ _) (Nat.le_refl _) nofun)⟩
  case rest=>
   obtain ⟨rfl,rfl,HBc⟩:=hcut;have hY5:=HY4.out.below HBc.out HY4.out.lt;clear y0 y1 y2 y3 y4 f0 f1 f2 f3 f4 hyl;obtain ⟨⟨y0,y1,y2,y3,y4⟩,f0,f1,f2,f3,f4⟩:=Blk.c5 hY5;dsimp only at y0 y1 y2 y3 y4;have hyl:=hY5.lt;clear hY5;obtain ⟨x,hx⟩:∃ x,acc.getD a 0=x:=⟨_,rfl⟩;obtain ⟨y,hy⟩:∃ y,acc.getD b 0=y:=⟨_,rfl⟩;rw [hx,hy];have hWG:wG S P acc ⟨gk,a,b,gn,gs⟩=if gk = 0 then gn else if gk = 1 then S.getD gn.toNat 0 else if gk = 2 then P.getD gn.toNat 0 else mdW gk x y gn:=by
    rw [←hx,←hy];unfold wG;simp only [Int.toNat_natCast]
   have HWG:=Hi hWG;have HS5:=Hi ((HFr.out.2.2.1.below HB4.out).below HBc.out);have HP5:=Hi ((HFr.out.2.2.2.below HB4.out).below HBc.out);clear hx hy hWG;obtain ⟨wq,hwq⟩:∃ v:World,v=wc:=⟨_,rfl⟩;subst hwq;have b1:=bd x;have b2:=bd y;have ha':=add_w x y;have hs':=sub_w x y;have h1:=b_and x y;have h2:=b_or x y;have h3:=b_xor x y;have hnt:=not_w x
   go_upto_block 2 with fail
   go_cut [10] from 44 to 110 (fun s10 wx=>s10=u (wG S P acc ⟨gk,a,b,gn,gs⟩)∧Hid (Below wq.heap.size wq wx))
   case first=>
    obtain ⟨hk0,hk1⟩:=HK.out;obtain rfl | rfl | rfl | rfl | rfl | rfl | rfl | rfl | rfl | rfl | rfl | rfl:gk = 0∨gk = 1∨gk = 2∨gk = 3∨gk = 4∨gk = 5∨gk = 6∨gk = 7∨gk = 8∨gk = 9∨gk = 10∨gk = 11:=by omega
    ·have HV:=Hi (HWG.out.trans (show (if (0:Int) = 0 then gn else if (0:Int) = 1 then S.getD gn.toNat 0 else if (0:Int) = 2 then P.getD gn.toNat 0 else mdW 0 x y gn)=gn from rfl));go_wp2_with fail
     go_meet
     refine ⟨?_,Hi (Below.refl _ _)⟩;rw [HV.out]
    ·have HV:=Hi (HWG.out.trans (show (if (1:Int) = 0 then gn else if (1:Int) = 1 then S.getD gn.toNat 0 else if (1:Int) = 2 then P.getD gn.toNat 0 else mdW 1 x y gn)=S.getD gn.toNat 0 from rfl));have HAT:=Hi (rat wq SA sC S HS5.out gn hSl);generalize S.getD gn.toNat 0=z at HAT HV;go_wp2_with fail
     refine (show Calls Tryz.prog 25 #[.slice SA S.length sC,u gn] wq _ from HAT.out).mono ?_;rintro e w6 ⟨rfl,rfl⟩;go_wp2_with fail
     go_meet
     exact ⟨by rw [HV.out],Hi (Below.refl _ _)⟩
    ·have HV:=Hi (HWG.out.trans (show (if (2:Int) = 0 then gn else if (2:Int) = 1 then S.getD gn.toNat 0 else if (2:Int) = 2 then P.getD gn.toNat 0 else mdW 2 x y gn)=P.getD gn.toNat 0 from rfl));have HAT:=Hi (rat wq PA pC P HP5.out gn hPl);generalize P.getD gn.toNat 0=z at HAT HV;go_wp2_with fail
     refine (show Calls Tryz.prog 25 #[.slice PA P.length pC,u gn] wq _ from HAT.out).mono ?_;rintro e w6 ⟨rfl,rfl⟩;go_wp2_with fail
     go_meet
     exact ⟨by rw [HV.out],Hi (Below.refl _ _)⟩
    ·have HV:=Hi (HWG.out.trans (show (if (3:Int) = 0 then gn else if (3:Int) = 1 then S.getD gn.toNat 0 else if (3:Int) = 2 then P.getD gn.toNat 0 else mdW 3 x y gn)=x &&& y from rfl));go_wp2_with fail
     go_meet
     refine ⟨?_,Hi (Below.refl _ _)⟩;rw [HV.out];show Value.int .u32 (((x.toNat &&& y.toNat:Nat):Int))=_;rw [←BitVec.toNat_and]
    ·have HV:=Hi (HWG.out.trans (show (if (4:Int) = 0 then gn else if (4:Int) = 1 then S.getD gn.toNat 0 else if (4:Int) = 2 then P.getD gn.toNat 0 else mdW 4 x y gn)=x ^^^ y from rfl));go_wp2_with fail
     go_meet
     refine ⟨?_,Hi (Below.refl _ _)⟩;rw [HV.out];show Value.int .u32 (((x.toNat ^^^ y.toNat:Nat):Int))=_;rw [←BitVec.toNat_xor]
    ·have HV:=Hi (HWG.out.trans (show (if (5:Int) = 0 then gn else if (5:Int) = 1 then S.getD gn.toNat 0 else if (5:Int) = 2 then P.getD gn.toNat 0 else mdW 5 x y gn) = ~~~x from rfl));go_wp2_with fail
     go_meet
     refine ⟨?_,Hi (Below.refl _ _)⟩;rw [HV.out];show Value.int .u32 (((4294967295 - x.toNat:Nat):Int))=_;rw [show 4294967295 - x.toNat=(~~~x).toNat from (BitVec.toNat_not (x:=x)).symm]
    ·have HV:=Hi (HWG.out.trans (show (if (6:Int) = 0 then gn else if (6:Int) = 1 then S.getD gn.toNat 0 else if (6:Int) = 2 then P.getD gn.toNat 0 else mdW 6 x y gn)=shV 0 x gn.toNat from rfl));have HSH:=Hi (HSH0.out wq x gn);go_wp2_with fail
     refine (show Calls Tryz.prog 26 #[.int .i64 0,u x,u gn,.bool false] wq _ from HSH.out).mono ?_;rintro e w6 ⟨⟨cc,rfl⟩,hb6⟩;have HB6:=Hi hb6;clear hb6;go_wp2_with fail
     go_meet
     exact ⟨by rw [HV.out],HB6⟩
    ·have HV:=Hi (HWG.out.trans (show (if (7:Int) = 0 then gn else if (7:Int) = 1 then S.getD gn.toNat 0 else if (7:Int) = 2 then P.getD gn.toNat 0 else mdW 7 x y gn)=shV 1 x gn.toNat from rfl));have HSH:=Hi (HSH1.out wq x gn);go_wp2_with fail
     refine (show Calls Tryz.prog 26 #[.int .i64 1,u x,u gn,.bool false] wq _ from HSH.out).mono ?_;rintro e w6 ⟨⟨cc,rfl⟩,hb6⟩;have HB6:=Hi hb6;clear hb6;go_wp2_with fail
     go_meet
     exact ⟨by rw [HV.out],HB6⟩
    ·have HV:=Hi (HWG.out.trans (show (if (8:Int) = 0 then gn else if (8:Int) = 1 then S.getD gn.toNat 0 else if (8:Int) = 2 then P.getD gn.toNat 0 else mdW 8 x y gn)=x.rotateLeft gn.toNat from rfl));have HSH:=Hi (HRO.out wq x gn);go_wp2_with fail
     refine (show Calls Tryz.prog 27 #[u x,u gn] wq _ from HSH.out).mono ?_;rintro e w6 ⟨rfl,hb6⟩;have HB6:=Hi hb6;clear hb6;go_wp2_with fail
     go_meet
     exact ⟨by rw [HV.out],HB6⟩
    ·have HV:=Hi (HWG.out.trans (show (if (9:Int) = 0 then gn else if (9:Int) = 1 then S.getD gn.toNat 0 else if (9:Int) = 2 then P.getD gn.toNat 0 else mdW 9 x y gn)=x ||| y from rfl));go_wp2_with fail
     go_meet
     refine ⟨?_,Hi (Below.refl _ _)⟩;rw [HV.out];show Value.int .u32 (((x.toNat ||| y.toNat:Nat):Int))=_;rw [←BitVec.toNat_or]
    ·have HV:=Hi (HWG.out.trans (show (if (10:Int) = 0 then gn else if (10:Int) = 1 then S.getD gn.toNat 0 else if (10:Int) = 2 then P.getD gn.toNat 0 else mdW 10 x y gn)=x+y from rfl));go_wp2_with fail
     go_meet
     refine ⟨?_,Hi (Below.refl _ _)⟩;rw [HV.out];show Value.int .u32 (((x.toNat:Int)+(y.toNat:Int)) % 4294967296)=_;rw [ha']
    ·have HV:=Hi (HWG.out.trans (show (if (11:Int) = 0 then gn else if (11:Int) = 1 then S.getD gn.toNat 0 else if (11:Int) = 2 then P.getD gn.toNat 0 else mdW 11 x y gn)=x - y from rfl));go_wp2_with fail
     go_meet
     refine ⟨?_,Hi (Below.refl _ _)⟩;rw [HV.out];show Value.int .u32 (((x.toNat:Int) - (y.toNat:Int)) % 4294967296)=_;rw [hs']
   case rest=>
    obtain ⟨rfl,HBd⟩:=hcut;obtain ⟨z,hz⟩:∃ z,wG S P acc ⟨gk,a,b,gn,gs⟩=z:=⟨_,rfl⟩;rw [hz];have HN:=Hi (HNX.out z hz);have HB5:=Hi ((HBr.out.trans (HB4.out.mono HBr.out.size)).trans (HBc.out.mono (HBr.out.trans (HB4.out.mono HBr.out.size)).size));have HBB:=Hi ((HB4.out.trans (HBc.out.mono HB4.out.size)).trans (HBd.out.mono (HB4.out.trans (HBc.out.mono HB4.out.size)).size));obtain ⟨w7,hw7⟩:∃ v,wc.alloc (.cells #[u z] 35)=v:=⟨_,rfl⟩;have hb7:Below wc.heap.size wc w7:=by rw [←hw7];exact (Below.refl _ _).alloc (Nat.le_refl _) _
    have hL7:Lies w7 (some ⟨wc.heap.size,0,none⟩) [u z]:=by rw [←hw7];exact lies_full _ _ [u z]
    have hr7:=HBB.out.trans (hb7.mono HBB.out.size);have hO7:=Nm.own_updV HOr.out (Upd.of_below hr7 fun _=>False) fun _ _=>id
    have hsz7:w.heap.size+1≤w7.heap.size:=by have:=hr7.size;have:=HFr.out.1;omega
    have HW7:=Hi hw7;have HO7:=Hi hO7;have HL7:=Hi hL7;have HR7:=Hi hr7;clear hw7 hb7 hL7 hr7 hO7 hz y0 y1 y2 y3 y4 f0 f1 f2 f3 f4 hyl
    (go_wp2_with (at_builtin;(try rw [HW7.out]);refine wpListAny rfl (.tmp 111) (.tmp 113) 29 rfl (w.heap.size+1) 35 j0 (.int .u32 0) 1 4 Tryz.underlying29 HJ.out HY0.out HY1.out HY2.out rfl (by decide) (.slice A' i c) i _ rfl HO7.out (some ⟨wc.heap.size,0,none⟩) 1 1 [u z] rfl rfl HL7.out (by simp [Value.oneCell']) (by unfold maxLen;omega) (by omega) hsz7 ?_;intro v8 w8 hown hgrow hat;obtain ⟨A8,c8,rfl⟩:=own_sl hown;have HU8:=Hi (show Upd (fun k=>w.heap.size+1≤k) wr w8 from (Upd.of_below HR7.out _).grown hgrow fun k hk hlt=>(Nm.own_atV HO7.out k hk).1);have HO8:=Hi hown;clear hown hgrow hat))
    rw [←List.map_singleton (f:=u),←List.map_append,HACC.out,←HN.out] at HO8;have M1:=Hi (HBr.out.trans (HU8.out.below (B:=w.heap.size) HBr.out.size fun k hk=>by omega));have M2:=Hi (HXr.out.upd HU8.out (by omega));have M3:=Hi (show w.heap.size+2≤w8.heap.size∧Cir w8 _ cA B cB l os∧Lies w8 SA (S.map u)∧Lies w8 PA (P.map u) from ⟨by have:=HU8.out.size;have:=HFr.out.1;omega,HCW.out.below M1.out,HSW.out.below M1.out,HPW.out.below M1.out⟩)
    go_roundw
    case rel=>exact ⟨i+1,c8,A8,by omega,by go_num,rfl,Hi (Below.refl _ _),M1,HO8,M2,M3⟩
    case measure=>simp [intOf];omega
theorem routs(w:World){A:Option Addr}{cA:Nat}{B:Option Addr}{cB:Nat}{l:List Gt}{os:List TI}(hC:Cir w A cA B cB l os)(sc pb:Int)
  {S P:List (BitVec 32)} {SA PA:Option Addr} {sC pC:Nat} (hS:Lies w SA (S.map u)) (hP:Lies w PA (P.map u)) (hSl:S.length≤9223372036854775807) (hPl:P.length≤9223372036854775807) (hos:os.length≤16000) :
  Calls Tryz.prog 16 #[crV A l.length cA sc pb B os.length cB,.slice SA S.length sC,.slice PA P.length pC] w (WsP w (ouL S P sc pb l os).length (ouL S P sc pb l os)):=by
 obtain ⟨w1,hw1,hb1,hX1,hs1⟩:=c_box w (crB A l.length cA sc pb B os.length cB);obtain ⟨e0,e1,e2,e3,z0,z1,z2,z3⟩:=Blk.c4 hX1;have hgl:=hX1.lt;have hr:=hC.rA;have HB:=Hi hb1;have HX:=Hi hX1;have HC:=Hi hC;have HW:=Hi (show w.alloc (.cells #[.slice A l.length cA,.int .i64 sc,.int .i64 pb,.slice B os.length cB] 25)=w1 from hw1);have HWS:=Hi (rwords w1 (hC.below hb1) sc pb (sC:=sC) (pC:=pC) (hS.below hb1) (hP.below hb1) hSl hPl);have HRC:=Hi fun (v:World) (hv:Below w.heap.size w v)=>rcan v (hC.below hv) sc pb
 obtain ⟨j0,hj,hy0,hy1,hy2⟩:=info_parts infoU;have HJ:=Hi hj;have HY0:=Hi hy0;have HY1:=Hi hy1;have HY2:=Hi hy2;unfold WsP BoP at *;clear hw1 hb1 hX1 hs1 hC hS hP hj hy0 hy1 hy2;by_cases h:caB sc pb l os=true;rotate_left
 ·have h':caB sc pb l os=false:=by simpa using h
  have hwo:woL S P sc pb l os=[]:=if_neg h;have hou:ouL S P sc pb l os=[]:=if_neg h;rw [hou];rw [hwo,List.length_nil] at HWS;rw [h'] at HRC;clear hwo hou h h';go_enter Tryz.func16,Tryz.ntmps16;go_upto_region 1 with fail
  rw [HW.out];go_wp2_with fail
  refine (show Calls Tryz.prog 14 #[crV A l.length cA sc pb B os.length cB,.slice SA S.length sC,.slice PA P.length pC] w1 _ from HWS.out).mono ?_;rintro e w2 ⟨A2,c2,rfl,hL2,hb2⟩;obtain ⟨w3,hw3⟩:∃ v,w2.alloc (.cells #[] 35)=v:=⟨_,rfl⟩;have hb3:Below w2.heap.size w2 w3:=by rw [←hw3];exact (Below.refl _ _).alloc (Nat.le_refl _) _
  have hb23:=hb2.trans (hb3.mono hb2.size);have hb13:=HB.out.trans (hb23.mono HB.out.size);have hX3:=HX.out.below hb23 HX.out.lt;have HX3:=Hi hX3;have HB3:=Hi hb13;have HW3:=Hi hw3;clear e0 e1 e2 e3 z0 z1 z2 z3 hgl hb2 hw3 hb3 hb23 hb13 hX3 hL2;go_upto_region 2 with fail
  rw [HW3.out];go_wp2_with fail
  go_loopw [8,9] (fun v8 v9 wr=>∃ (q:Nat),v9 = .int .i64 0∧v8 = .slice (some ⟨q,0,none⟩) 0 0∧wr=w3) (fun _ vi _=>0)
  case atStart=>exact ⟨_,rfl,rfl,rfl⟩
  case round=>
   obtain ⟨q,rfl,rfl,rfl⟩:=hrel;have hXr:=HX3.out;obtain ⟨e0,e1,e2,e3,z0,z1,z2,z3⟩:=Blk.c4 hXr;have hgl:=hXr.lt;clear hXr;by_cases h0:os.length = 0
   ·have d0:decide ((0:Int) < (os.length:Int))=false:=decide_eq_false (by omega);go_wp2_with fail
    go_ret
    first | exact ⟨Lies.nil _ _,HB3.out⟩ | exact ⟨_,Lies.nil _ _,HB3.out⟩ | exact ⟨_,_,Lies.nil _ _,HB3.out⟩ | exact ⟨_,_,rfl,Lies.nil _ _,HB3.out⟩
   have d0:decide ((0:Int) < (os.length:Int))=true:=decide_eq_true (by omega);by_cases h1:l.length = 0
   ·have d1:((0:Int)==(l.length:Int))=true:=by simp [h1]
    clear h1;have HR:=Hi (HRC.out wr HB3.out);go_wp2_with fail
    refine (show Calls Tryz.prog 8 #[crV A l.length cA sc pb B os.length cB] wr _ from HR.out).mono ?_;rintro e w5 ⟨rfl,hb5⟩;have HEND:=Hi (HB3.out.trans (hb5.mono HB3.out.size));clear hb5;go_wp2_with fail
    go_ret
    first | exact ⟨Lies.nil _ _,HEND.out⟩ | exact ⟨_,Lies.nil _ _,HEND.out⟩ | exact ⟨_,_,Lies.nil _ _,HEND.out⟩ | exact ⟨_,_,rfl,Lies.nil _ _,HEND.out⟩
   have d1:((0:Int)==(l.length:Int))=false:=by simp;omega
   go_wp2_with fail
   go_ret
   first | exact ⟨Lies.nil _ _,HB3.out⟩ | exact ⟨_,Lies.nil _ _,HB3.out⟩ | exact ⟨_,_,Lies.nil _ _,HB3.out⟩ | exact ⟨_,_,rfl,Lies.nil _ _,HB3.out⟩
 have hwo:woL S P sc pb l os=wsT S P l l.length:=if_pos h;have hou:ouL S P sc pb l os=os.map fun o=>(wsT S P l l.length).getD o.n.toNat 0:=if_pos h
 have hlen:=wsT_len (S:=S) (P:=P) (l:=l) (Nat.le_refl _);rw [hou,List.length_map];rw [hwo,hlen] at HWS;have HIN:=Hi fun (o:TI) (ho:o∈os)=>ca_out h ho
 have hll:=(ca_len h).1;rw [h] at HRC;generalize wsT S P l l.length=ws at HWS hlen ⊢;clear hwo hou h;go_enter Tryz.func16,Tryz.ntmps16;go_upto_region 1 with fail
 rw [HW.out];go_wp2_with fail
 refine (show Calls Tryz.prog 14 #[crV A l.length cA sc pb B os.length cB,.slice SA S.length sC,.slice PA P.length pC] w1 _ from HWS.out).mono ?_;rintro e w2 ⟨A2,c2,rfl,hL2,hb2⟩;obtain ⟨w3,hw3⟩:∃ v,w2.alloc (.cells #[] 35)=v:=⟨_,rfl⟩;have hb3:Below w2.heap.size w2 w3:=by rw [←hw3];exact (Below.refl _ _).alloc (Nat.le_refl _) _
 have hb23:=hb2.trans (hb3.mono hb2.size);have hb13:=HB.out.trans (hb23.mono HB.out.size);have hX3:=HX.out.below hb23 HX.out.lt;obtain ⟨q,hq⟩:∃ q,w2.heap.size=q:=⟨_,rfl⟩;have hO3:w3.ownsRow q 35 1 (.slice (some ⟨q,0,none⟩) 0 0) 0 []:=by
  rw [←hq,←hw3];exact own_full w2 (Nat.le_refl _) 35 1 0 [] rfl (by decide)
 have hgq:w.heap.size < q:=by have:=HX.out.lt;have:=hb2.size;omega
 have HX3:=Hi hX3;have HB3:=Hi hb13;have HW3:=Hi hw3;have HO3:=Hi hO3;have HL2:=Hi hL2;have HQ3:=Hi (show Below q w2 w3 from by rw [←hq];exact hb3);have HQ:=Hi hq;have hq3:q≤w3.heap.size:=by rw [←hq];exact hb3.size
 clear e0 e1 e2 e3 z0 z1 z2 z3 hgl hb2 hw3 hb3 hb23 hb13 hX3 hL2 hO3;go_upto_region 2 with fail
 rw [HW3.out];(try simp only [HQ.out]);clear hq;go_wp2_with fail
 go_loopw [8,9] (fun v8 v9 wr=>∃ (i c:Nat) (A':Option Addr),i≤os.length∧v9 = .int .i64 (i:Int)∧v8 = .slice A' i c∧Hid (Below w.heap.size w wr)∧Hid (Below q w2 wr)∧Hid (wr.ownsRow q 35 1 (.slice A' i c) i (((os.take i).map fun o=>ws.getD o.n.toNat 0).map u))∧Hid (Blk wr w.heap.size 25 (crB A l.length cA sc pb B os.length cB))∧Hid (q≤wr.heap.size)) (fun _ vi _=>os.length - (intOf vi).toNat)
 case atStart=>exact ⟨0,0,_,by omega,rfl,rfl,HB3,HQ3,HO3,HX3,Hi hq3⟩
 case round=>
  obtain ⟨i,c,A',hi,rfl,rfl,HBr,HQr,HOr,HXr,HSr⟩:=hrel;have hXr:=HXr.out;obtain ⟨e0,e1,e2,e3,z0,z1,z2,z3⟩:=Blk.c4 hXr;have hgl:=hXr.lt;clear hXr;by_cases hlt:i < os.length;rotate_left
  ·obtain rfl:i=os.length:=by omega
   have hEN:=lies_own HOr.out;rw [List.take_length] at hEN;have HEND:=Hi hEN;have d0:decide ((os.length:Int) < (os.length:Int))=false:=by simp
   clear hEN;go_wp2_with fail
   go_ret
   first | exact ⟨HEND.out,HBr.out⟩ | exact ⟨_,HEND.out,HBr.out⟩ | exact ⟨_,_,HEND.out,HBr.out⟩ | exact ⟨_,_,rfl,HEND.out,HBr.out⟩
  have d0:decide ((i:Int) < (os.length:Int))=true:=decide_eq_true (by omega);have hil:(i:Int) < (os.length:Int):=by omega
  have HR:=Hi (HRC.out wr HBr.out);go_wp2_with fail
  refine (show Calls Tryz.prog 8 #[crV A l.length cA sc pb B os.length cB] wr _ from HR.out).mono ?_;rintro e w5 ⟨rfl,hb5⟩;obtain ⟨⟨s,n⟩,ho⟩:∃ o,os[i]?=some o:=⟨_,List.getElem?_eq_getElem hlt⟩;obtain ⟨hn0,hn1⟩:=HIN.out _ (List.mem_of_getElem? ho);dsimp only at hn0 hn1;obtain ⟨m,rfl⟩:∃ m:Nat,n=(m:Int):=⟨n.toNat,by omega⟩;have hb5w:=HBr.out.trans (hb5.mono HBr.out.size);obtain ⟨p,o,rfl,hpl,c0,c1⟩:=(HC.out.below hb5w).out ho;dsimp only at c0 c1;have f1:(ws.map u)[m]?=some (u (ws.getD m 0)):=by
   rw [List.getElem?_map,List.getElem?_eq_getElem (by omega),List.getD_eq_getElem?_getD,List.getElem?_eq_getElem (by omega)];rfl
  have hq5:Below q w2 w5:=HQr.out.trans (hb5.mono HSr.out);obtain ⟨pb',po,rfl,hpb,hcw⟩:=(HL2.out.below (by rw [HQ.out];exact hq5)).at_ f1;have d1:=hcw _ _ f1;have hX5:=HXr.out.below hb5 HXr.out.lt;have hO5:=Nm.own_updV HOr.out (Upd.of_below hb5 fun _=>False) fun _ _=>id
  have hmi:(m:Int) < (l.length:Int):=by omega
  obtain ⟨x,hx⟩:∃ x,ws.getD m 0=x:=⟨_,rfl⟩;rw [hx] at d1;obtain ⟨w7,hw7⟩:∃ v,w5.alloc (.cells #[u x] 35)=v:=⟨_,rfl⟩;have hb7:Below w5.heap.size w5 w7:=by rw [←hw7];exact (Below.refl _ _).alloc (Nat.le_refl _) _
  have hL7:Lies w7 (some ⟨w5.heap.size,0,none⟩) [u x]:=by rw [←hw7];exact lies_full _ _ [u x]
  have hO7:=Nm.own_updV hO5 (Upd.of_below hb7 fun _=>False) fun _ _=>id
  have hr7:=hb5.trans (hb7.mono hb5.size);have hsz7:q≤w7.heap.size:=by have:=hr7.size;have:=HSr.out;omega
  have HMT:=Hi (show (os.take (i+1)).map (fun o=>ws.getD o.n.toNat 0)=(os.take i).map (fun o=>ws.getD o.n.toNat 0) ++ [x] from by
   rw [map_take _ ho];simp only [Int.toNat_natCast];rw [hx])
  have HW7:=Hi hw7;have HO7:=Hi hO7;have HL7:=Hi hL7;have HR7:=Hi hr7;have HX5:=Hi hX5;clear e0 e1 e2 e3 z0 z1 z2 z3 hgl;obtain ⟨e0,e1,e2,e3,z0,z1,z2,z3⟩:=Blk.c4 hX5;have hgl:=hX5.lt;clear hw7 hb7 hL7 hr7 hO7 hO5 hX5 hb5 hb5w hq5 hcw f1 hx ho hn0 hn1
  (go_wp2_with (at_builtin;(try rw [HW7.out]);refine wpListAny rfl (.tmp 34) (.tmp 44) 29 rfl q 35 j0 (.int .u32 0) 1 4 Tryz.underlying29 HJ.out HY0.out HY1.out HY2.out rfl (by decide) (.slice A' i c) i _ rfl HO7.out (some ⟨w5.heap.size,0,none⟩) 1 1 [u x] rfl rfl HL7.out (by simp [Value.oneCell']) (by unfold maxLen;omega) (by omega) hsz7 ?_;intro v8 w8 hown hgrow hat;obtain ⟨A8,c8,rfl⟩:=own_sl hown;have HU8:=Hi (show Upd (fun k=>q≤k) wr w8 from (Upd.of_below HR7.out _).grown hgrow fun k hk hlt=>(Nm.own_atV HO7.out k hk).1);have HO8:=Hi hown;clear hown hgrow hat))
  rw [←List.map_singleton (f:=u),←List.map_append,←HMT.out] at HO8;have M1:=Hi (HBr.out.trans (HU8.out.below (B:=w.heap.size) HBr.out.size fun k hk=>by omega));have M4:=Hi (HQr.out.trans (HU8.out.below (B:=q) HSr.out fun k hk=>hk));have M2:=Hi (HXr.out.upd HU8.out (by omega));have M3:=Hi (show q≤w8.heap.size from by have:=HU8.out.size;have:=HSr.out;omega)
  go_roundw
  case rel=>exact ⟨i+1,c8,A8,by omega,by go_num,rfl,M1,M4,HO8,M2,M3⟩
  case measure=>simp [intOf];omega
end Go.Proofs.YtdhoemlomojfaaaGreatDoor.Ci
