/- DERIVED. EvMx, EvSh, EvRu, EvSt. By an AI agent. -/
import Derived.Test.YtcgibpdjfgjldaaGreatDoorU18
import Derived.Test.YtcgibpdjfgjldaaGreatDoorU20
import Derived.Test.YtcgibpdjfgjldaaGreatDoorU25
import Derived.Test.YtcgibpdjfgjldaaGreatDoorU31
set_option maxRecDepth 100000
set_option maxHeartbeats 8000000
set_option linter.unusedVariables false
set_option linter.unusedSimpArgs false
open Go Go.ChangeShapes Go.WideShapes Go.ChangeAt Go.RowKit
namespace Go.Proofs.YtcgibpdjfgjldaaGreatDoor
namespace Ev
open Lx Args Pa Sh Go.Proofs.YtcgibpdjfgjldaaGreatDoor.Nm WMath Fl
def rwF:List Bs->List (BitVec 32)->Rw->Rw
 | [],_,r=>r
 | s :: l,ws,r=>rwF l ws.tail (if (lkR r s).isSome=true then r else r ++ [(s,ws.headD 0)])
theorem q54(t:Bs):∀ (l:List Bs) (ws:List (BitVec 32)) (r:Rw),lkR (rwF l ws r) t=match lkR r t with | some x=>some x | none=>knOf l ws t
 | [],ws,r=>by
  show lkR r t=match lkR r t with | some x=>some x | none=>none
  cases lkR r t <;> rfl
 | s :: l,ws,r=>by
  show lkR (rwF l ws.tail (if (lkR r s).isSome=true then r else r ++ [(s,ws.headD 0)])) t=match lkR r t with | some x=>some x | none=>if t=s then some (ws.headD 0) else knOf l ws.tail t
  by_cases h:(lkR r s).isSome=true
  ·rw [if_pos h,q54 t l ws.tail r];cases hr:lkR r t with
   | some x=>rfl
   | none=>
    have hne:t≠s:=fun e=>by rw [<-e,hr] at h;cases h
    show knOf l ws.tail t=if t=s then some (ws.headD 0) else knOf l ws.tail t
    rw [if_neg hne]
  ·rw [if_neg h,q54 t l ws.tail _,q81];show (match (if t=s then some (ws.headD 0) else lkR r t) with | some x=>some x | none=>knOf l ws.tail t)=_;by_cases he:t=s
   ·subst he;have hn:lkR r t=none:=by
     cases hr:lkR r t with
     | none=>rfl
     | some x=>rw [hr] at h;exact absurd rfl h
    rw [if_pos rfl,hn,if_pos rfl]
   ·rw [if_neg he,if_neg he]
theorem rwF_all(names:List Bs)(words:List (BitVec 32)):lkR (rwF names words [])=knOf names words:=by
 funext t
 rw [q54];rfl
theorem q8q{names:List Bs}{words:List (BitVec 32)}{i:Nat}{s:Bs}(h:names[i]?=some s)(r:Rw):rwF (names.drop i) (words.drop i) r=rwF (names.drop (i+1)) (words.drop (i+1)) (if (lkR r s).isSome=true then r else r ++ [(s,words.getD i 0)]):=by
 rw [drop_at h];show rwF (names.drop (i+1)) (words.drop i).tail (if (lkR r s).isSome=true then r else r ++ [(s,(words.drop i).headD 0)])=_;rw [List.tail_drop,List.headD_eq_head?_getD,List.head?_drop,<-List.getD_eq_getElem?_getD]
def ansR(kn:Kn)(z:Tz):Value:=if canB kn z=true then .tuple #[uV (rdB kn z),.int .i64 0] else .tuple #[.int .u32 0,.int .i64 1]
theorem q8r(kn:Kn){z:Tz}(hd:mdE z):ansR kn z=ansE kn z:=by
 unfold ansR ansE;by_cases h:canB kn z=true
 ·rw [if_pos h,if_pos h,q0Z kn (SizeOf.sizeOf z+1) z (Nat.lt_succ_self _) hd h]
 ·rw [if_neg h,if_neg h]
theorem rexp(s:ByteArray)(names:List Bs)(words:List (BitVec 32))(A:Option Addr)(c:Nat)(A2:Option Addr)(c2:Nat)(hl:names.length<=100)(hl2:words.length<=9223372036854775807)(w:World)(hA:Lies w A (names.map strV))(hB:Lies w A2 (words.map uV)) :
  Calls Tryz.prog 17 #[.string s,.slice A names.length c,.slice A2 words.length c2] w (ExP s.data.toList (knOf names words) w):=by
 have HP:=Hi (Pq.r_expr s w);unfold RdP at HP;have HA:=Hi hA;have HB:=Hi hB;unfold ExP;clear hA hB;go_enter Tryz.func17,Tryz.ntmps17;go_wp2_with fail
 refine HP.out.mono ?_;rintro e w1 (⟨k,a,sx,n,Ax,la,cA,B,lb,cB,x,t,r,rfl,h1,h2,h3,hT,hb⟩ | ⟨a,er,rfl,hbad,hb⟩)
 ·obtain ⟨z1,z2,z3⟩:=q8X h1 h2;have hTV:TrV w1 (embz x) (k:Int) (a:Int) sx n Ax la cA B lb cB:=⟨q30 hT,z1,z2⟩;obtain ⟨w2,hw2,hb2,hX2,hs2⟩:=q05 w1 (nB (k:Int) (a:Int) sx n Ax la cA B lb cB);obtain ⟨w3,hw3,hb3,-⟩:=alK w2 #[.slice none 0 0,.slice none 0 0,.slice none 0 0,.slice none 0 0,.slice none 0 0,.slice none 0 0] 83;obtain ⟨g,hg⟩:∃ g,w1.heap.size+1=g:=⟨_,rfl⟩;have hs2':w2.heap.size=g:=by rw [<-hg];exact hs2
  have hs3:w3.heap.size=g+1:=by rw [<-hw3];simp [hs2']
  have hM3:Blk w3 g 83 #[.slice none 0 0,.slice none 0 0,.slice none 0 0,.slice none 0 0,.slice none 0 0,.slice none 0 0]:=by
   have:=Blk.new w2 83 #[.slice none 0 0,.slice none 0 0,.slice none 0 0,.slice none 0 0,.slice none 0 0,.slice none 0 0];rw [hs2',hw3] at this;exact this
  have hO3:RmO w3 g []:=⟨.slice none 0 0,.slice none 0 0,hM3,⟨World.ownsRow_nil _ _ _ _,World.ownsRow_nil _ _ _ _,fun b hb=>(by cases hb),V0⟩,V2⟩;have hb13:=hb2.trans (hb3.mono hb2.size);have hX3:=hX2.below hb3 hX2.lt;have HX3:=Hi hX3;have HO3:=Hi hO3;have HB13:=Hi hb13;have HTV:=Hi hTV;have HW2:=Hi hw2;have HW3:=Hi hw3;have HB1:=Hi hb;have H1:=Hi h1;have H2:=Hi h2;have H3:=Hi h3;have HZ:=Hi z3;have HG:=Hi hg;have HA1:=Hi (HA.out.below hb);have HLB1:=Hi (HB.out.below hb);obtain ⟨rF,hrF⟩:∃ rF,rwF names words []=rF:=⟨_,rfl⟩;have HRF:=Hi (show rwF (names.drop 0) (words.drop 0) []=rF from hrF);have HKN:=Hi (show lkR rF=knOf names words by rw [<-hrF];exact rwF_all names words);clear hb hT z1 z2 z3 hTV hw2 hb2 hX2 hs2 hw3 hb3 hM3 hO3 hb13 hX3 h1 h2 h3 hrF;go_upto_region 2 with fail
  rw [HW2.out];go_upto_region 5 with fail
  rw [HW3.out];(try rw [HG.out]);go_wp2_with fail
  go_loopw [12] (fun vi wr=>∃ i:Nat,i<=names.length/\vi = .int .i64 (i:Int)/\Hid (Below w1.heap.size w1 wr)/\Hid (Blk wr w1.heap.size 26 (nB (k:Int) (a:Int) sx n Ax la cA B lb cB))/\Hid (∃ rr:Rw,RmO wr g rr/\rr.length<=i/\rwF (names.drop i) (words.drop i) rr=rF)) (fun vi _=>names.length - (intOf vi).toNat)
  case atStart=>exact ⟨0,V0,rfl,HB13,HX3,Hi ⟨[],HO3.out,V2,HRF.out⟩⟩
  case round=>
   obtain ⟨i,hi,rfl,HBr,HXr,HRr⟩:=hrel;obtain ⟨rr,hO,hrl,hrw⟩:=HRr.out;by_cases hlt:i < names.length
   ·have hil:(i:Int) < (names.length:Int):=by omega
    obtain ⟨nm,hnm⟩:∃ p,names[i]?=some p:=⟨_,List.getElem?_eq_getElem hlt⟩;have f1:(names.map strV)[i]?=some (.string ⟨nm.toArray⟩):=by rw [List.getElem?_map,hnm];rfl
    obtain ⟨b5,o5,rfl,hb5,hc5⟩:=q1x HA1.out f1;have k5:=hc5 wr HBr.out;have hb5':b5 < wr.heap.size:=Nat.lt_of_lt_of_le hb5 HBr.out.size;have HAT:=Hi (rat wr g rr hO.lies nm);rw [q8q hnm] at hrw;have HRW:=Hi hrw;have HO:=Hi hO;unfold AtP at HAT;have hgl:=hO.lies.lt;clear hnm f1 hb5 hc5 hO hrw;go_wp2_with fail
    refine (show Calls Tryz.prog 38 #[.pointer (some ⟨g,0,none⟩),.string ⟨nm.toArray⟩,.int .i64 0] wr _ from HAT.out).mono ?_;rintro e w4 ⟨rfl,(⟨rfl,hlk⟩ | ⟨j,y,rfl,hj,-,hlk⟩)⟩
    ·have HRW2:=Hi (show rwF (names.drop (i+1)) (words.drop (i+1)) (rr ++ [(nm,words.getD i 0)])=rF by have h:=HRW.out;rw [hlk] at h;exact h);have HST:=Hi fun x=>rset w4 g rr HO.out nm x hlk V0
     clear hlk;by_cases hwl:i < words.length
     ·have hwil:(i:Int) < (words.length:Int):=by omega
      obtain ⟨x,hx⟩:∃ x,words[i]?=some x:=⟨_,List.getElem?_eq_getElem hwl⟩;have f2:(words.map uV)[i]?=some (uV x):=by rw [List.getElem?_map,hx];rfl
      obtain ⟨b6,o6,rfl,hb6,hc6⟩:=q1x HLB1.out f2;have k6:=hc6 w4 HBr.out;have hb6':b6 < w4.heap.size:=Nat.lt_of_lt_of_le hb6 HBr.out.size;have hgx:words.getD i 0=x:=by rw [List.getD_eq_getElem?_getD,hx];rfl
      have HRW3:=Hi (show rwF (names.drop (i+1)) (words.drop (i+1)) (rr ++ [(nm,x)])=rF by rw [<-hgx];exact HRW2.out);clear hx f2 hb6 hc6 hgx;go_wp2_with fail
      refine (show Calls Tryz.prog 39 #[.pointer (some ⟨g,0,none⟩),.string ⟨nm.toArray⟩,uV x] w4 _ from HST.out x).mono ?_;rintro e w5 ⟨rfl,hO5,hu5⟩;have N1:=Hi (HBr.out.trans (hu5.below (B:=w1.heap.size) HBr.out.size fun b hb=>V18));have N2:=Hi (HXr.out.upd hu5 V18);have N3:=Hi (show ∃ rr':Rw,RmO w5 g rr'/\rr'.length<=i+1/\rwF (names.drop (i+1)) (words.drop (i+1)) rr'=rF from ⟨_,hO5,V4,HRW3.out⟩);clear hO5 hu5 k5 k6 hb5' hb6' hgl;exact V3z
     ·have hwil:¬ (i:Int) < (words.length:Int):=by omega
      have hgx:words.getD i 0 = 0:=by rw [List.getD_eq_getElem?_getD,List.getElem?_eq_none V0];rfl
      have HRW3:=Hi (show rwF (names.drop (i+1)) (words.drop (i+1)) (rr ++ [(nm,0)])=rF by rw [<-hgx];exact HRW2.out);clear hgx;go_wp2_with fail
      refine (show Calls Tryz.prog 39 #[.pointer (some ⟨g,0,none⟩),.string ⟨nm.toArray⟩,.int .u32 0] w4 _ from HST.out 0).mono ?_;rintro e w5 ⟨rfl,hO5,hu5⟩;have N1:=Hi (HBr.out.trans (hu5.below (B:=w1.heap.size) HBr.out.size fun b hb=>V18));have N2:=Hi (HXr.out.upd hu5 V18);have N3:=Hi (show ∃ rr':Rw,RmO w5 g rr'/\rr'.length<=i+1/\rwF (names.drop (i+1)) (words.drop (i+1)) rr'=rF from ⟨_,hO5,V4,HRW3.out⟩);clear hO5 hu5 k5 hb5' hgl;exact V3z
    ·have hge:decide ((j:Int) ≥ 0)=true:=by simp
     have N3:=Hi (show ∃ rr':Rw,RmO w4 g rr'/\rr'.length<=i+1/\rwF (names.drop (i+1)) (words.drop (i+1)) rr'=rF from ⟨rr,HO.out,V0,by have h:=HRW.out;rw [hlk] at h;exact h⟩);clear hlk k5 hb5' hgl;go_wp2_with fail
     go_roundw
     case rel=>exact ⟨i+1,V0,V5,HBr,HXr,N3⟩
     case measure=>simp [intOf];omega
   ·obtain rfl:i=names.length:=by omega
    have hrf:rr=rF:=by rw [<-hrw,List.drop_length];rfl
    have hkn:lkR rr=knOf names words:=by rw [hrf];exact HKN.out
    have HT9:=Hi (HTV.out.below HBr.out);have HPL:=Hi (rplain (w0:=wr) hO.lies (SizeOf.sizeOf (embz x)+1) (embz x) (Nat.lt_succ_self _) HZ.out wr k a sx n Ax la cA B lb cB (Below.refl _ _) HT9.out);rw [hkn] at HPL;have HXP:=Hi fun v (hv:Below wr.heap.size wr v) (hc:canB (lkR rr) (embz x)=true)=>rexpr (w0:=wr) hO.lies (SizeOf.sizeOf (embz x)+1) (embz x) (Nat.lt_succ_self _) HZ.out hc v k a sx n Ax la cA B lb cB hv HT9.out
    rw [hkn] at HXP;have HAN:=Hi (q8r (knOf names words) HZ.out);obtain ⟨⟨e0,e1,e2,e3,e4,e5⟩,z0,z1,z2,z3,z4,z5⟩:=Blk.c6 HXr.out;have hgl:=HXr.out.lt;have HBW:=Hi (HB1.out.trans (HBr.out.mono HB1.out.size));unfold TellP at HPL;obtain ⟨q,hq⟩:∃ q,canB (knOf names words) (embz x)=q:=⟨_,rfl⟩;rw [hq] at HPL;have HQ:=Hi hq;clear hO hrl hrw hrf hkn hlt hq;go_wp2_with fail
    refine (show Calls Tryz.prog 40 #[.pointer (some ⟨g,0,none⟩),nzA k a sx n Ax la cA B lb cB] wr _ from HPL.out).mono ?_;rintro e w5 ⟨rfl,hb5⟩;cases q with
    | false=>
     have HEND:=Hi (HBW.out.trans (hb5.mono HBW.out.size));clear hb5;go_wp2_with fail
     go_ret2
     exact ⟨HEND.out,.inl ⟨x,t,r,H1.out,H2.out,H3.out,by rw [<-HAN.out];unfold ansR;rw [HQ.out];rfl⟩⟩
    | true=>
     have hX5:=HXr.out.below hb5 HXr.out.lt;have HEX:=Hi (HXP.out w5 hb5 HQ.out);have HB5:=Hi (HBW.out.trans (hb5.mono HBW.out.size));clear e0 e1 e2 e3 e4 e5 z0 z1 z2 z3 z4 z5 hgl;obtain ⟨⟨e0,e1,e2,e3,e4,e5⟩,z0,z1,z2,z3,z4,z5⟩:=Blk.c6 hX5;have hgl:=hX5.lt;have HAN2:=Hi (show ansE (knOf names words) (embz x) = .tuple #[uV (rdB (knOf names words) (embz x)),.int .i64 0] by rw [<-HAN.out];unfold ansR;rw [if_pos HQ.out]);unfold WoP at HEX;generalize rdB (knOf names words) (embz x)=x2 at HEX HAN2;clear hb5 hX5;go_wp2_with fail
     refine (show Calls Tryz.prog 41 #[.pointer (some ⟨g,0,none⟩),nzA k a sx n Ax la cA B lb cB,.int .i64 0] w5 _ from HEX.out).mono ?_;rintro e w6 ⟨rfl,hb6⟩;have HEND:=Hi (HB5.out.trans (hb6.mono HB5.out.size));clear hb6;go_wp2_with fail
     go_ret2
     exact ⟨HEND.out,.inl ⟨x,t,r,H1.out,H2.out,H3.out,by rw [HAN2.out];rfl⟩⟩
 ·exact V2B
theorem lies_take{w:World}{A:Option Addr}{α:Type}{f:α->Value}{xs:List α}(h:Lies w A (xs.map f))(k:Nat):Lies w A ((xs.take k).map f):=fun j u hj=>h j u (by
 rw [List.getElem?_map] at hj ⊢;rw [List.getElem?_take] at hj;by_cases hk:j < k
 ·rw [if_pos hk] at hj;exact hj
 ·rw [if_neg hk] at hj;cases hj)
theorem q25{w w':World}(h:Below w.heap.size w w')(c:Obj):Below w.heap.size w (w'.alloc c):=h.trans (((Below.refl _ _).alloc (Nat.le_refl _) _).mono h.size)
theorem take_all{α:Type}{xs:List α}{k:Nat}(h:xs.length<=k):xs.take k=xs:=List.take_of_length_le h
theorem short(w:World)(words:List (BitVec 32))(A:Option Addr)(c:Nat)(hc:words.length<=c)(hc2:c<=maxLen)(hA:100 < words.length->∃ b o,A=some ⟨b,o,none⟩)(hL:Lies w A (words.map uV)) :
  Calls Tryz.prog 16 #[.slice A words.length c] w fun e w'=>∃ A' c',(words.take 100).length<=c'/\c'<=maxLen/\e = .returned (.slice A' (words.take 100).length c')/\Lies w' A' ((words.take 100).map uV)/\Below w.heap.size w w':=by
 obtain ⟨j0,hj,hy0,hy1,hy2⟩:=info_parts infoU;have HJ:=Hi hj;have HY0:=Hi hy0;have HY1:=Hi hy1;have HY2:=Hi hy2;have HL:=Hi (lies_take hL 100);have hl100:(words.take 100).length<=100:=V4;have hle:words.length<=maxLen:=V0;unfold maxLen at hle hc2;clear hj hy0 hy1 hy2 hL;obtain ⟨xs,hxs⟩:∃ xs,words.take 100=xs:=⟨_,rfl⟩;by_cases hl:100 < words.length
 ·obtain ⟨b,o,rfl⟩:=hA hl;have hl2:(100:Int) < (words.length:Int):=V0;have hl3:(100:Int)<=(c:Int):=V0;have hx:(100:Nat)=xs.length:=by rw [<-hxs];simp;omega
  rw [hxs] at HL hl100 ⊢;clear hA hxs;go_enter Tryz.func16,Tryz.ntmps16;have hA0:Below w.heap.size w (w.alloc (.cells #[] 22)):=q25 (Below.refl _ _) _;have HLA:=Hi (HL.out.below hA0)
  (go_wp2_with (at_builtin;refine q0M rfl (.tmp 8) (.tmp 9) 44 rfl 22 j0 (.int .u32 0) 1 4 Tryz.underlying44 HJ.out HY0.out HY1.out HY2.out rfl V2 _ rfl (some ⟨b,o,none⟩) xs.length c (xs.map uV) rfl V19 HLA.out V8 V0 ?_;intro A' c' w' h1 h2 h3 h4;have HEND:=Hi (show xs.length<=c'/\c'<=maxLen/\Lies w' A' (xs.map uV)/\Below w.heap.size w w' from ⟨h1,h2,h3.lies,hA0.trans (h4.mono hA0.size)⟩);clear h1 h2 h3 h4))
  exact V4f
 ·have hl2:¬ (100:Int) < (words.length:Int):=by omega
  obtain rfl:words=xs:=by rw [<-hxs];exact (take_all V0).symm
  rw [hxs] at HL hl100 ⊢;clear hA hxs;go_enter Tryz.func16,Tryz.ntmps16;have hA0:Below w.heap.size w (w.alloc (.cells #[] 22)):=q25 (Below.refl _ _) _;have HLA:=Hi (HL.out.below hA0)
  (go_wp2_with (at_builtin;refine q0M rfl (.tmp 8) (.tmp 9) 44 rfl 22 j0 (.int .u32 0) 1 4 Tryz.underlying44 HJ.out HY0.out HY1.out HY2.out rfl V2 _ rfl A words.length c (words.map uV) rfl V19 HLA.out V8 V0 ?_;intro A' c' w' h1 h2 h3 h4;have HEND:=Hi (show words.length<=c'/\c'<=maxLen/\Lies w' A' (words.map uV)/\Below w.heap.size w w' from ⟨h1,h2,h3.lies,hA0.trans (h4.mono hA0.size)⟩);clear h1 h2 h3 h4))
  exact V4f
abbrev Rn(w:World)(g:Nat)(cst fm:Value)(mb:Nat)(lo se pu ou:Value):Prop:=Blk w g 147 #[cst,fm,.map (some mb),lo,se,pu,ou]
theorem Blk.c7{w:World}{g:Nat}{t:TypeId}{a b c d e f h:Value}(H:Blk w g t #[a,b,c,d,e,f,h]):(w.cell? ⟨g,0,none⟩=some a/\w.cell? ⟨g,1,none⟩=some b/\w.cell? ⟨g,2,none⟩=some c/\w.cell? ⟨g,3,none⟩=some d/\w.cell? ⟨g,4,none⟩=some e/\w.cell? ⟨g,5,none⟩=some f/\w.cell? ⟨g,6,none⟩=some h) /\
  w.frozen? ⟨g,0,none⟩=false/\w.frozen? ⟨g,1,none⟩=false/\w.frozen? ⟨g,2,none⟩=false/\w.frozen? ⟨g,3,none⟩=false/\w.frozen? ⟨g,4,none⟩=false/\w.frozen? ⟨g,5,none⟩=false/\w.frozen? ⟨g,6,none⟩=false:=
 ⟨⟨H.cell 0,H.cell 1,H.cell 2,H.cell 3,H.cell 4,H.cell 5,H.cell 6⟩,H.frozen 0,H.frozen 1,H.frozen 2,H.frozen 3,H.frozen 4,H.frozen 5,H.frozen 6⟩
def kOf:Tz->Int | .mk k _ _ _ _ _=>k
theorem learn0{w0:World}{A:Option Addr}{c:Nat}{l:List Tz}(hP:Pts w0 A c l)(hk:∀ y∈l,kOf y≠12/\kOf y≠11)(g:Nat)(w:World)(hb:Below w0.heap.size w0 w) :
  Calls Tryz.prog 86 #[.pointer (some ⟨g,0,none⟩),.slice A l.length c] w fun e w'=>e = .returned (.tuple #[])/\Below w.heap.size w w':=by
 have HP:=Hi hP;have HB:=Hi hb;have HK:=Hi hk;have hlm:l.length<=9223372036854775807:=Nat.le_trans hP.le hP.cap;clear hP hb hk;go_enter Tryz.func86,Tryz.ntmps86;go_wp2_with fail
 go_loopw [8] (fun vi wr=>∃ i:Nat,i<=l.length/\vi = .int .i64 (i:Int)/\Hid (Below w.heap.size w wr)) (fun vi _=>l.length - (intOf vi).toNat)
 case atStart=>exact ⟨0,V0,rfl,Hi (Below.refl _ _)⟩
 case round=>
  obtain ⟨i,hi,rfl,HR⟩:=hrel;by_cases hlt:i < l.length
  ·have hil:(i:Int) < (l.length:Int):=by omega
   obtain ⟨y,hy⟩:∃ y,l[i]?=some y:=⟨_,List.getElem?_eq_getElem hlt⟩;have hb0:=HB.out.trans (HR.out.mono HB.out.size);obtain ⟨b9,o9,k',a',s',n',A',la',cA',B',lb',cB',hA9,hTy,hbl,g0',g1,g2,g3,g4,g5⟩:=HP.out.at_ hb0 hy;subst hA9;obtain ⟨k1,a1,s1,n1,ps1,l1⟩:=y;obtain ⟨rfl,-,-,-,-,-,-⟩:=hTy.parts;obtain ⟨h12,h11⟩:=HK.out _ (List.mem_of_getElem? hy);have i12:(k'==12)=false:=by simpa using (show k'≠12 from h12)
   have i11:(k'==11)=false:=by simpa using (show k'≠11 from h11)
   obtain ⟨wb,hwb,hbb,hXb,hsb⟩:=q05 wr (nB k' a' s' n' A' la' cA' B' lb' cB');obtain ⟨⟨e0,e1,e2,e3,e4,e5⟩,z0,z1,z2,z3,z4,z5⟩:=Blk.c6 hXb;have hgl:=hXb.lt;have hbl2:b9 < wr.heap.size:=Nat.lt_of_lt_of_le hbl hb0.size;have HN:=Hi (HR.out.trans (hbb.mono HR.out.size));have HWB:=Hi hwb;clear hTy hbl hb0 hy hwb hbb hXb hsb h12 h11;go_upto_region 3 with fail
   rw [HWB.out];clear g0' g1 g2 g3 g4 g5;go_wp2_with fail
   go_roundw
   case rel=>exact ⟨i+1,V0,V5,HN⟩
   case measure=>simp [intOf];omega
  ·obtain rfl:i=l.length:=by omega
   go_wp2_with fail
   first | go_end0 | skip
   all_goals first | exact ⟨rfl,HR.out⟩ | exact bodyPost_ret (results_none rfl _ _ _) rfl ⟨rfl,HR.out⟩
theorem input1{cst fm lo se pu ou:Value}{g mb q:Nat}{kn:Kn}(w:World)(hR:Rn w g cst fm mb lo se pu ou)(hM:MpU w mb q kn)(hq:q < 1000)(hgm:g≠mb)(p:Bs)(hp:p.length<=maxLen)(x:BitVec 32)(A:Option Addr)(c:Nat)(hA:Lies w A [strV p])(b2 c2:Nat)(hB:Lies w (some ⟨b2,0,none⟩) [uV x])(hc2:c2 = 1) :
  Calls Tryz.prog 138 #[.pointer (some ⟨g,0,none⟩),.slice A 1 c,.slice (some ⟨b2,0,none⟩) 1 c2] w fun e w'=>(∃ Av nv cv,e = .returned (.slice Av nv cv))/\MpU w' mb (q+1) (putN kn p x)/\Upd (·=mb) w w':=by
 subst hc2;have f1:([strV p]:List Value)[0]?=some (.string ⟨p.toArray⟩):=rfl;obtain ⟨b,o,rfl,hbl,hc1⟩:=hA.at_ f1;have k1:=hc1 _ _ f1;simp only [Nat.add_zero] at k1;have HAT:=Hi fun v (hv:Below w.heap.size w v)=>atU v (some ⟨b2,0,none⟩) 1 [x] (hB.below hv) 0 V3
 have HR:=Hi hR;have HM:=Hi hM;have HFIN:=Hi (show ∀ wd w',Below w.heap.size w wd->wd.mapTurned w' mb->Upd (·=mb) w w' from fun wd w' h1 h2=>(Upd.of_below h1 _).trans (q08 h2 rfl));clear hA hB hc1 f1 hR hM;go_enter Tryz.func138,Tryz.ntmps138;go_wp2_with fail
 go_loopw [11] (fun vi wr=>(vi = .int .i64 0/\wr=w)\/(vi = .int .i64 1/\Hid (MpU wr mb (q+1) (putN kn p x))/\Hid (Upd (·=mb) w wr))) (fun vi _=>1 - (intOf vi).toNat)
 case atStart=>exact .inl ⟨rfl,rfl⟩
 case round=>
  rcases hrel with ⟨rfl,rfl⟩ | ⟨rfl,HM1,HU1⟩
  ·go_wp2_with fail
   have hdr:Below wr.heap.size wr wr.drew:=Below.drew (Below.refl _ _);obtain ⟨wd,hwd⟩:∃ v,wr.drew=v:=⟨_,rfl⟩;rw [hwd] at hdr;have HRd:=Hi (HR.out.below hdr HR.out.lt);have HMd:=Hi (HM.out.upd (X:=fun _=>False) (Upd.of_below hdr fun _=>False) id);have HDR:=Hi hdr;have hZ0:Upd (·=mb) wd wd:=Upd.refl _ _;clear hdr k1;refine HT.wp_region (Z:=fun w'=>Upd (·=mb) wd w') (S:=fun _=>True) (st:=[]) V1 ?_;rw [hwd];clear hwd;refine HT.m 0 hZ0 ?_;refine HT.m 1 hZ0 ?_;refine HT.m 2 hZ0 ?_;refine HT.k 3 rfl V3a hZ0 ?_;refine HT.m 4 hZ0 ?_;refine HT.m 5 hZ0 ?_;refine HT.m 6 hZ0 ?_;refine HT.one (i:=7) V1 rfl (fun K hK=>?_);go_simp;refine (show Calls Tryz.prog 75 #[.slice (some ⟨b2,0,none⟩) 1 1,.int .i64 0] wd _ from HAT.out wd HDR.out).mono ?_;rintro e w5 ⟨rfl,rfl⟩;(try dsimp only);refine hK.out _ _ hZ0 trivial ?_;clear hK K;(try simp only [HT.pS]);obtain ⟨w6,hrun,hm6,ht6⟩:=q6w HMd.out hp (by simp only [maxLen];omega) x;have hrun':(Instr.mapUpdate 77 (.map (some mb)) (.string ⟨p.toArray⟩) (uV ([x].getD 0 0))).run Tryz.prog w5 = .ok () w6:=hrun;refine HT.one (i:=8) V1 rfl (fun K hK=>?_);go_simp;(try dsimp only);refine hK.out _ _ (q08 ht6 rfl) trivial ?_;clear hK K;(try simp only [HT.pS]);refine HT.done V1 ?_;have N1:=Hi hm6;have N2:=Hi (HFIN.out w5 w6 HDR.out ht6);clear hm6 hrun hrun' ht6 hZ0;go_wp2_with fail
   go_roundw
   case rel=>exact .inr ⟨V5,N1,N2⟩
   case measure=>simp [intOf]
  ·go_wp2_with fail
   go_ret;exact ⟨⟨_,_,_,rfl⟩,HM1.out,HU1.out⟩
theorem value1{w0:World}{cst fm lo se pu ou:Value}{g mb q:Nat}{kn:Kn}{y:Tz}(hd:mdE y)(hc:canB kn y=true)(hs:shf y=false)(w:World)(hb:Below w0.heap.size w0 w)(hR:Rn w g cst fm mb lo se pu ou)(hM:MpU w mb q kn)
  (k a:Int) (s:Bs) (n:Nat) (A:Option Addr) (cA:Nat) (B:Option Addr) (lb cB:Nat) (hP:Pts w0 A cA [y]) :
  Calls Tryz.prog 139 #[.pointer (some ⟨g,0,none⟩),nzA k a s n A 1 cA B lb cB] w (WoP w (wdB kn y)):=by
 obtain ⟨w1,hw1,hb1,hX1,hs1⟩:=q05 w (nB k a s n A 1 cA B lb cB);obtain ⟨b0,o0,k1,a1,s1,n1,A1,la1,cA1,B1,lb1,cB1,hA1,hT1,hbl1,hcel1⟩:=hP.cells (i:=0) (y:=y) rfl;subst hA1;have HAT:=Hi fun v (hv:Below w0.heap.size w0 v)=>atN (L:=1) (c:=cA) v hv V2 V2 hbl1 hcel1
 have HWD:=Hi fun v hv hm=>word (w0:=w0) (cst:=cst) (fm:=fm) (q:=q) (kb:=mb) (kn:=kn) (SizeOf.sizeOf y+1) y (Nat.lt_succ_self _) hd hc (.inr hs) v k1 a1 s1 n1 A1 la1 cA1 B1 lb1 cB1 hv hm hT1
 have HB1:=Hi hb1;have HW1:=Hi hw1;have HX1:=Hi hX1;have HB01:=Hi (hb.trans (hb1.mono hb.size));have HM1:=Hi (hM.upd (X:=fun _=>False) (Upd.of_below hb1 fun _=>False) id);have HR1:=Hi (hR.below hb1 hR.lt);unfold WoP at HWD ⊢;generalize wdB kn y=x2 at HWD ⊢;clear hw1 hb1 hX1 hs1 hT1 hbl1 hcel1 hP hb hR hM hd hc hs;go_enter Tryz.func139,Tryz.ntmps139;go_upto_region 1 with fail
 rw [HW1.out];have hdr:Below w1.heap.size w1 w1.drew:=Below.drew (Below.refl _ _);obtain ⟨wd,hwd⟩:∃ v,w1.drew=v:=⟨_,rfl⟩;rw [hwd] at hdr;have HXd:=Hi (HX1.out.below hdr HX1.out.lt);have HRd:=Hi (HR1.out.below hdr HR1.out.lt);have HBd:=Hi (HB1.out.trans (hdr.mono HB1.out.size));have HB0d:=Hi (HB01.out.trans (hdr.mono HB01.out.size));have HMd:=Hi (HM1.out.upd (X:=fun _=>False) (Upd.of_below hdr fun _=>False) id);clear hdr;have hZ0:Below wd.heap.size wd wd:=Below.refl _ _;refine HT.wp_region (Z:=fun w'=>Below wd.heap.size wd w') (S:=fun _=>True) (st:=[]) V1 ?_;rw [hwd];clear hwd;refine HT.m 0 hZ0 ?_;refine HT.m 1 hZ0 ?_;refine HT.m 2 hZ0 ?_;refine HT.k 3 rfl V1x hZ0 ?_;refine HT.k 4 rfl V7 hZ0 ?_;refine HT.k 5 rfl V7 hZ0 ?_;refine HT.m 7 hZ0 ?_;refine HT.m 8 hZ0 ?_;refine HT.m 9 hZ0 ?_;refine HT.k 10 rfl V1x hZ0 ?_;refine HT.one (i:=6) V1 rfl (fun K hK=>?_);go_simp;refine (show Calls Tryz.prog 76 #[.slice (some ⟨b0,o0,none⟩) 1 cA,.int .i64 0] wd _ from HAT.out wd HB0d.out).mono ?_;rintro e w5 ⟨rfl,hb5⟩;(try dsimp only);refine hK.out _ _ hb5 trivial ?_;clear hK K;(try simp only [HT.pS]);refine HT.one (i:=11) V1 rfl (fun K hK=>?_);go_simp;refine (show Calls Tryz.prog 37 #[.agg #[cst,fm],nzA k1 a1 s1 n1 A1 la1 cA1 B1 lb1 cB1,.map (some mb)] w5 _ from HWD.out w5 (HB0d.out.trans (hb5.mono HB0d.out.size)) (HMd.out.upd (X:=fun _=>False) (Upd.of_below hb5 fun _=>False) id)).mono ?_;rintro e w6 ⟨rfl,hb6⟩;have hz6:=hb5.trans (hb6.mono hb5.size);(try dsimp only);refine hK.out _ _ hz6 trivial ?_;clear hK K;(try simp only [HT.pS]);refine HT.m 12 hz6 ?_;refine HT.done V1 ?_;have HEND:=Hi (HBd.out.trans (hz6.mono HBd.out.size));clear hZ0 hb5 hb6 hz6;go_wp2_with fail
 go_ret;exact ⟨rfl,HEND.out⟩
theorem stS{cst fm lo pu ou:Value}{g mb q:Nat}{kn:Kn}(w:World)(x:BitVec 32)(b2:Nat)(hR:Rn w g cst fm mb lo (.slice (some ⟨b2,0,none⟩) 1 1) pu ou)(hM:MpU w mb q kn)(hq:q < 1000)(hgm:g≠mb)(p:Bs)(hp:p.length<=maxLen)
  (hB:Lies w (some ⟨b2,0,none⟩) [uV x]) (a:Int) (s:Bs) (n:Nat) (A:Option Addr) (la cA:Nat) (B:Option Addr) (cB:Nat) (hA:Lies w B [strV p]) :
  Calls Tryz.prog 117 #[.pointer (some ⟨g,0,none⟩),nzA 6 a s n A la cA B 1 cB] w fun e w'=>e = .returned (.tuple #[])/\(∃ se,Rn w' g cst fm mb lo se pu ou)/\MpU w' mb (q+1) (putN kn p x)/\Upd (fun b=>b=mb\/b=g) w w':=by
 obtain ⟨w1,hw1,hb1,hX1,hs1⟩:=q05 w (nB 6 a s n A la cA B 1 cB);have HB1:=Hi hb1;have HW1:=Hi hw1;have HX1:=Hi hX1;have HR1:=Hi (hR.below hb1 hR.lt);have HM1:=Hi (hM.upd (X:=fun _=>False) (Upd.of_below hb1 fun _=>False) id);have HA1:=Hi (hA.below hb1);have HL1:=Hi (hB.below hb1);have hmb:=hM.lt;have hgl0:=hR.lt;obtain ⟨⟨e0,e1,e2,e3,e4,e5⟩,z0,z1,z2,z3,z4,z5⟩:=Blk.c6 hX1;have hgl:=hX1.lt;clear hw1 hb1 hX1 hR hM hA hB;go_enter Tryz.func117,Tryz.ntmps117;go_upto_region 1 with fail
 rw [HW1.out];go_wp2_with fail
 have hdr:Below w1.heap.size w1 w1.drew:=Below.drew (Below.refl _ _);obtain ⟨wd,hwd⟩:∃ v,w1.drew=v:=⟨_,rfl⟩;rw [hwd] at hdr;have HXd:=Hi (HX1.out.below hdr HX1.out.lt);have HRd:=Hi (HR1.out.below hdr HR1.out.lt);have HBd:=Hi (HB1.out.trans (hdr.mono HB1.out.size));have HIN:=Hi (input1 wd (HR1.out.below hdr HR1.out.lt) (HM1.out.upd (X:=fun _=>False) (Upd.of_below hdr fun _=>False) id) hq hgm p hp x B cB (HA1.out.below hdr) b2 1 (HL1.out.below hdr) rfl);have hnm:¬ w.heap.size=mb:=V0;clear hdr e0 e1 e2 e3 e4 e5 z0 z1 z2 z3 z4 z5 hgl;have hS0:Upd (·=mb) wd wd:=Upd.refl _ _;refine HT.wp_region (Z:=fun w'=>True) (S:=fun w'=>Upd (·=mb) wd w') (st:=[11]) V1 ?_;rw [hwd];clear hwd;refine HT.tm 0 rfl trivial (fun _=>hS0) ?_;refine HT.tm 1 rfl trivial (fun _=>hS0) ?_;refine HT.tm 2 rfl trivial (fun _=>hS0) ?_;refine HT.ts 3 rfl (by intro v hSw;have hA:=HXd.out.upd hSw hnm;have E_:=Blk.c6 hA;have hga:=hA.lt;clear hSw hA;go_simp;try with_reducible rfl) trivial hS0 ?_;refine HT.tm 4 rfl trivial (fun _=>hS0) ?_;refine HT.tm 5 rfl trivial (fun _=>hS0) ?_;refine HT.tm 6 rfl trivial (fun _=>hS0) ?_;refine HT.ts 7 rfl V3a trivial hS0 ?_;refine HT.one (i:=8) V1 rfl (fun K hK=>?_);go_simp;refine (show Calls Tryz.prog 138 #[.pointer (some ⟨g,0,none⟩),.slice B 1 cB,.slice (some ⟨b2,0,none⟩) 1 1] wd _ from HIN.out).mono ?_;rintro e w5 ⟨⟨Av,nv,cv,rfl⟩,hm5,hu5⟩;(try dsimp only);refine hK.out _ _ trivial hu5 ?_;clear hK K;(try simp only [HT.pS]);refine HT.tm 9 rfl trivial (fun _=>hu5) ?_;refine HT.tm 10 rfl trivial (fun _=>hu5) ?_;have hR5:=HRd.out.upd hu5 hgm;obtain ⟨⟨r0,r1,r2,r3,r4,r5,r6⟩,q0,q1,q2,q3,q4,q5,q6⟩:=Blk.c7 hR5;have hgl:=hR5.lt;have hu6:Upd (·=g) w5 (w5.setCell ⟨g,4,none⟩ (.slice Av nv cv)):=(Upd.refl (·=g) w5).setCell (p:=⟨g,4,none⟩) (fun _=>rfl) _;have HEND:=Hi (show (∃ se,Rn (w5.setCell ⟨g,4,none⟩ (.slice Av nv cv)) g cst fm mb lo se pu ou)/\MpU (w5.setCell ⟨g,4,none⟩ (.slice Av nv cv)) mb (q+1) (putN kn p x)/\Upd (fun b=>b=mb\/b=g) w (w5.setCell ⟨g,4,none⟩ (.slice Av nv cv)) from
  ⟨⟨_,hR5.set 4 _⟩,hm5.upd hu6 (fun e=>hgm e.symm),((Upd.of_below HBd.out _).trans (hu5.mono fun b h=>.inl h)).trans (hu6.mono fun b h=>.inr h)⟩)
 clear hu6 hm5;refine HT.oneS (i:=11) V1 V1 rfl (fun K hK=>?_);go_simp;(try dsimp only);refine hK.out _ _ trivial ?_;clear hK K;(try simp only [HT.pS]);refine HT.done V1 ?_;clear hS0 hu5;go_wp2_with fail
 first | go_end0 | skip
 all_goals first | exact ⟨rfl,HEND.out⟩ | exact bodyPost_ret (results_none rfl _ _ _) rfl ⟨rfl,HEND.out⟩
theorem stO{w0:World}{cst fm lo se pu:Value}{g mb q:Nat}{kn:Kn}{y:Tz}(hd:mdE y)(hc:canB kn y=true)(hs:shf y=false)(w:World)(hb:Below w0.heap.size w0 w)(hR:Rn w g cst fm mb lo se pu (.slice none 0 0))(hM:MpU w mb q kn)
  (a:Int) (s:Bs) (n:Nat) (A:Option Addr) (cA:Nat) (B:Option Addr) (lb cB:Nat) (hP:Pts w0 A cA [y]) :
  Calls Tryz.prog 117 #[.pointer (some ⟨g,0,none⟩),nzA 8 a s n A 1 cA B lb cB] w fun e w'=>e = .returned (.tuple #[])/\(∃ A' c',Rn w' g cst fm mb lo se pu (.slice A' 1 c')/\Lies w' A' [uV (wdB kn y)])/\Upd (·=g) w w':=by
 obtain ⟨w1,hw1,hb1,hX1,hs1⟩:=q05 w (nB 8 a s n A 1 cA B lb cB);obtain ⟨j0,hj,hy0,hy1,hy2⟩:=info_parts infoU;have HJ:=Hi hj;have HY0:=Hi hy0;have HY1:=Hi hy1;have HY2:=Hi hy2;have HB1:=Hi hb1;have HW1:=Hi hw1;have HX1:=Hi hX1;have HR1:=Hi (hR.below hb1 hR.lt);have HVA:=Hi fun v (hv:Below w1.heap.size w1 v)=>value1 (w0:=w0) hd hc hs v ((hb.trans (hb1.mono hb.size)).trans (hv.mono (hb.trans (hb1.mono hb.size)).size)) ((hR.below hb1 hR.lt).below hv (hR.below hb1 hR.lt).lt) ((hM.upd (X:=fun _=>False) (Upd.of_below hb1 fun _=>False) id).upd (X:=fun _=>False) (Upd.of_below hv fun _=>False) id) 8 a s n A cA B lb cB hP
 have hgl0:=hR.lt;have hng:¬ w.heap.size=g:=V0;obtain ⟨⟨e0,e1,e2,e3,e4,e5⟩,z0,z1,z2,z3,z4,z5⟩:=Blk.c6 hX1;have hgl:=hX1.lt;unfold WoP at HVA;generalize wdB kn y=x2 at HVA ⊢;clear hw1 hb1 hX1 hR hM hP hj hy0 hy1 hy2 hd hc hs hb;go_enter Tryz.func117,Tryz.ntmps117;go_upto_region 1 with fail
 rw [HW1.out];go_wp2_with fail
 have hdr:Below w1.heap.size w1 w1.drew:=Below.drew (Below.refl _ _);obtain ⟨wd,hwd⟩:∃ v,w1.drew=v:=⟨_,rfl⟩;rw [hwd] at hdr;have HXd:=Hi (HX1.out.below hdr HX1.out.lt);have HRd:=Hi (HR1.out.below hdr HR1.out.lt);have HBd:=Hi (HB1.out.trans (hdr.mono HB1.out.size));have HDR:=Hi hdr;clear hdr e0 e1 e2 e3 e4 e5 z0 z1 z2 z3 z4 z5 hgl;have hS0:Below wd.heap.size wd wd:=Below.refl _ _;refine HT.wp_region (Z:=fun w'=>True) (S:=fun w'=>Below wd.heap.size wd w') (st:=[12]) V1 ?_;rw [hwd];clear hwd;refine HT.tm 0 rfl trivial (fun _=>hS0) ?_;refine HT.tm 1 rfl trivial (fun _=>hS0) ?_;refine HT.tm 2 rfl trivial (fun _=>hS0) ?_;refine HT.tm 3 rfl trivial (fun _=>hS0) ?_;refine HT.ts 4 rfl V1x trivial hS0 ?_;refine HT.tm 5 rfl trivial (fun _=>hS0) ?_;refine HT.ts 6 rfl V7 trivial hS0 ?_;refine HT.one (i:=7) V1 rfl (fun K hK=>?_);go_simp;refine (show Calls Tryz.prog 139 #[.pointer (some ⟨g,0,none⟩),nzA 8 a s n A 1 cA B lb cB] wd _ from HVA.out wd HDR.out).mono ?_;rintro e w5 ⟨rfl,hb5⟩;(try dsimp only);refine hK.out _ _ trivial hb5 ?_;clear hK K;(try simp only [HT.pS]);obtain ⟨w6,hw6,hb6,-⟩:=alK w5 #[uV x2] 22;have hL6:Lies w6 (some ⟨w5.heap.size,0,none⟩) [uV x2]:=by rw [<-hw6];exact q07 _ _ [uV x2]
 have hz6:=hb5.trans (hb6.mono hb5.size);refine HT.one (i:=8) V1 rfl (fun K hK=>?_);go_simp;(try rw [hw6]);(try dsimp only);refine hK.out _ _ trivial hz6 ?_;clear hK K;(try simp only [HT.pS]);refine HT.one (i:=9) V1 rfl (fun K hK=>?_);refine q0x rfl (.tmp 50) (.tmp 54) 44 rfl w6.heap.size 22 j0 (.int .u32 0) 1 4 Tryz.underlying44 HJ.out HY0.out HY1.out HY2.out rfl V2 (.slice none 0 0) 0 [] rfl (World.ownsRow_nil _ _ _ _) (some ⟨w5.heap.size,0,none⟩) 1 1 [uV x2] rfl rfl hL6 Vt V2 V2 (Nat.le_refl _) ?_;intro u2 w7 hown hgrow hat;rw [Nat.zero_add,List.nil_append] at hown;obtain ⟨Av,cv,rfl⟩:=q0l hown;have hL7:=q0E hown;have hb7:Below w6.heap.size w6 w7:=(Below.refl _ _).grown hgrow (Nat.le_refl _) (fun k hk=>by cases hk);have hz7:=hz6.trans (hb7.mono hz6.size);(try dsimp only);refine hK.out _ _ trivial hz7 ?_;clear hK K hat hgrow;(try simp only [HT.pS]);refine HT.tm 10 rfl trivial (fun _=>hz7) ?_;refine HT.tm 11 rfl trivial (fun _=>hz7) ?_;have hR7:=HRd.out.below hz7 HRd.out.lt;obtain ⟨⟨r0,r1,r2,r3,r4,r5,r6⟩,q0,q1,q2,q3,q4,q5,q6⟩:=Blk.c7 hR7;have hgl:=hR7.lt;have hu8:Upd (·=g) w7 (w7.setCell ⟨g,6,none⟩ (.slice Av 1 cv)):=(Upd.refl (·=g) w7).setCell (p:=⟨g,6,none⟩) (fun _=>rfl) _;have ho8:=Nm.own_updV hown hu8 fun b hb e=>by have h1:=(Nm.own_atV hown b hb).1;have h2:=HRd.out.lt;have h3:=hz6.size;omega
 have HEND:=Hi (show (∃ A' c',Rn (w7.setCell ⟨g,6,none⟩ (.slice Av 1 cv)) g cst fm mb lo se pu (.slice A' 1 c')/\Lies (w7.setCell ⟨g,6,none⟩ (.slice Av 1 cv)) A' [uV x2])/\Upd (·=g) w (w7.setCell ⟨g,6,none⟩ (.slice Av 1 cv)) from
  ⟨⟨Av,cv,hR7.set 6 _,q0E ho8⟩,(Upd.of_below (HBd.out.trans (hz7.mono HBd.out.size)) _).trans hu8⟩)
 clear hu8 ho8;refine HT.oneS (i:=12) V1 V1 rfl (fun K hK=>?_);go_simp;(try dsimp only);refine hK.out _ _ trivial ?_;clear hK K;(try simp only [HT.pS]);refine HT.done V1 ?_;clear hS0 hb5 hz6 hz7 hb6 hb7;go_wp2_with fail
 first | go_end0 | skip
 all_goals first | exact ⟨rfl,HEND.out⟩ | exact bodyPost_ret (results_none rfl _ _ _) rfl ⟨rfl,HEND.out⟩
theorem stmts2{w0:World}{A:Option Addr}{c:Nat}{y0 y1:Tz}(hP:Pts w0 A c [y0,y1])(g:Nat)(I0 I1 I2:World->Prop)(hI0:∀ {w w':World},I0 w->Below w.heap.size w w'->I0 w')(hI1:∀ {w w':World},I1 w->Below w.heap.size w w'->I1 w')(hB0:∀ w,I0 w->Below w0.heap.size w0 w)(hB1:∀ w,I1 w->Below w0.heap.size w0 w)
  (H0:∀ (v:World) (k a:Int) (s:Bs) (n:Nat) (A:Option Addr) (la cA:Nat) (B:Option Addr) (lb cB:Nat),I0 v->TrV w0 y0 k a s n A la cA B lb cB->Calls Tryz.prog 117 #[.pointer (some ⟨g,0,none⟩),nzA k a s n A la cA B lb cB] v fun e w'=>e = .returned (.tuple #[])/\I1 w')
  (H1:∀ (v:World) (k a:Int) (s:Bs) (n:Nat) (A:Option Addr) (la cA:Nat) (B:Option Addr) (lb cB:Nat),I1 v->TrV w0 y1 k a s n A la cA B lb cB->Calls Tryz.prog 117 #[.pointer (some ⟨g,0,none⟩),nzA k a s n A la cA B lb cB] v fun e w'=>e = .returned (.tuple #[])/\I2 w') (w:World) (hI:I0 w) :
  Calls Tryz.prog 87 #[.pointer (some ⟨g,0,none⟩),.slice A 2 c] w fun e w'=>e = .returned (.tuple #[])/\I2 w':=by
 have HP:=Hi hP;have HH0:=Hi H0;have HH1:=Hi H1;have HI:=Hi hI;have HS0:=Hi (fun (w w':World) (h:I0 w) (hb:Below w.heap.size w w')=>hI0 h hb);have HS1:=Hi (fun (w w':World) (h:I1 w) (hb:Below w.heap.size w w')=>hI1 h hb);have HB0:=Hi hB0;have HB1:=Hi hB1;clear hP H0 H1 hI hI0 hI1 hB0 hB1;go_enter Tryz.func87,Tryz.ntmps87;go_wp2_with fail
 go_loopw [8] (fun vi wr=>∃ i:Nat,i<=2/\vi = .int .i64 (i:Int)/\Hid ((i = 0->I0 wr)/\(i = 1->I1 wr)/\(i = 2->I2 wr))) (fun vi _=>2 - (intOf vi).toNat)
 case atStart=>exact ⟨0,V0,rfl,Hi ⟨fun _=>HI.out,fun h=>absurd h V2,fun h=>absurd h V2⟩⟩
 case round=>
  obtain ⟨i,hi,rfl,HR⟩:=hrel
  match i,hi with
  | 0,_=>
   have hIr:=HR.out.1 rfl;have hb0:=HB0.out wr hIr;obtain ⟨b9,o9,k',a',s',n',A',la',cA',B',lb',cB',hA9,hTy,hbl,g0',g1,g2,g3,g4,g5⟩:=HP.out.at_ hb0 (i:=0) (y:=y0) rfl;subst hA9;obtain ⟨wb,hwb,hbb,hXb,hsb⟩:=q05 wr (nB k' a' s' n' A' la' cA' B' lb' cB');obtain ⟨⟨e0,e1,e2,e3,e4,e5⟩,z0,z1,z2,z3,z4,z5⟩:=Blk.c6 hXb;have hgl:=hXb.lt;have hbl2:b9 < wr.heap.size:=Nat.lt_of_lt_of_le hbl hb0.size;have HC:=Hi (HH0.out wb k' a' s' n' A' la' cA' B' lb' cB' (HS0.out _ _ hIr hbb) hTy);have HWB:=Hi hwb;simp only [Nat.zero_mul,Nat.one_mul,Nat.add_zero] at g0' g1 g2 g3 g4 g5;clear hTy hbl hb0 hwb hbb hXb hsb hIr;go_upto_region 3 with fail
   rw [HWB.out];clear g0' g1 g2 g3 g4 g5;go_wp2_with fail
   refine (show Calls Tryz.prog 117 #[.pointer (some ⟨g,0,none⟩),nzA k' a' s' n' A' la' cA' B' lb' cB'] wb _ from HC.out).mono ?_;rintro e w4 ⟨rfl,hI4⟩;have HI4:=Hi hI4;clear hI4 e0 e1 e2 e3 e4 e5 z0 z1 z2 z3 z4 z5 hgl hbl2;go_wp2_with fail
   go_roundw
   case rel=>exact ⟨1,V0,V5,Hi ⟨fun h=>absurd h V2,fun _=>HI4.out,fun h=>absurd h V2⟩⟩
   case measure=>simp [intOf]
  | 1,_=>
   have hIr:=HR.out.2.1 rfl;have hb0:=HB1.out wr hIr;obtain ⟨b9,o9,k',a',s',n',A',la',cA',B',lb',cB',hA9,hTy,hbl,g0',g1,g2,g3,g4,g5⟩:=HP.out.at_ hb0 (i:=1) (y:=y1) rfl;subst hA9;obtain ⟨wb,hwb,hbb,hXb,hsb⟩:=q05 wr (nB k' a' s' n' A' la' cA' B' lb' cB');obtain ⟨⟨e0,e1,e2,e3,e4,e5⟩,z0,z1,z2,z3,z4,z5⟩:=Blk.c6 hXb;have hgl:=hXb.lt;have hbl2:b9 < wr.heap.size:=Nat.lt_of_lt_of_le hbl hb0.size;have HC:=Hi (HH1.out wb k' a' s' n' A' la' cA' B' lb' cB' (HS1.out _ _ hIr hbb) hTy);have HWB:=Hi hwb;simp only [Nat.zero_mul,Nat.one_mul,Nat.add_zero] at g0' g1 g2 g3 g4 g5;clear hTy hbl hb0 hwb hbb hXb hsb hIr;go_upto_region 3 with fail
   rw [HWB.out];clear g0' g1 g2 g3 g4 g5;go_wp2_with fail
   refine (show Calls Tryz.prog 117 #[.pointer (some ⟨g,0,none⟩),nzA k' a' s' n' A' la' cA' B' lb' cB'] wb _ from HC.out).mono ?_;rintro e w4 ⟨rfl,hI4⟩;have HI4:=Hi hI4;clear hI4 e0 e1 e2 e3 e4 e5 z0 z1 z2 z3 z4 z5 hgl hbl2;go_wp2_with fail
   go_roundw
   case rel=>exact ⟨2,V0,V5,Hi ⟨fun h=>absurd h V2,fun h=>absurd h V2,fun _=>HI4.out⟩⟩
   case measure=>simp [intOf]
  | 2,_=>
   have HI2:=Hi (HR.out.2.2 rfl);go_wp2_with fail
   first | go_end0 | skip
   all_goals first | exact ⟨rfl,HI2.out⟩ | exact bodyPost_ret (results_none rfl _ _ _) rfl ⟨rfl,HI2.out⟩
end Ev
end Go.Proofs.YtcgibpdjfgjldaaGreatDoor
