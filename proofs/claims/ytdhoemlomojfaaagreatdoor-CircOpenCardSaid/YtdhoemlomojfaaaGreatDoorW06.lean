/- DERIVED. CiRCan. By an AI agent. -/
import Derived.Test.YtdhoemlomojfaaaGreatDoorW01
import Derived.Test.YtdhoemlomojfaaaGreatDoorW05
import Derived.Deep.QuietTactic
import Derived.Deep.DeepCutAuto
set_option maxRecDepth 100000
set_option maxHeartbeats 8000000
set_option linter.unusedVariables false
set_option linter.unusedSimpArgs false
namespace Go.Proofs.YtdhoemlomojfaaaGreatDoor.Ci
open Go Go.ChangeShapes Go.WideShapes Go.ChangeAt Go.RowKit Args WMath Word
theorem drewU(X:Nat→Prop)(w:World)(n:Nat):Upd X w (w.drewN n):=(Upd.refl X w).drewN n
theorem rtakes(w:World)(k:Int):Calls Tryz.prog 22 #[.int .i64 k] w fun e w'=>e = .returned (.int .i64 (tk k:Int))∧w'=w:=by
 rcases tk_cases k with (rfl | rfl | rfl | rfl | rfl | rfl | rfl | rfl | rfl) | h
 all_goals try (go_enter Tryz.func22,Tryz.ntmps22;go_wp2_with fail;go_ret;exact ⟨rfl,rfl⟩)
 rw [tk_none h];have h3:(k==3)=false:=by simp [h.2.2.2.2.1]
 have h4:(k==4)=false:=by simp [h.2.2.2.2.2.1]
 have hr:k≤2∨12≤k:=by omega
 clear h;rcases hr with hr | hr
 ·have a1:decide (9≤k)=false:=decide_eq_false (by omega);have a2:decide (5≤k)=false:=decide_eq_false (by omega);clear hr;go_enter Tryz.func22,Tryz.ntmps22;go_wp2_with fail
  go_ret;exact ⟨rfl,rfl⟩
 ·have a1:decide (9≤k)=true:=decide_eq_true (by omega);have a2:decide (5≤k)=true:=decide_eq_true (by omega);have a3:decide (k≤11)=false:=decide_eq_false (by omega);have a4:decide (k≤8)=false:=decide_eq_false (by omega);clear hr;go_enter Tryz.func22,Tryz.ntmps22;go_wp2_with fail
  go_ret;exact ⟨rfl,rfl⟩
def bad1(t:Nat)(k a b:Int)(i:Nat):Bool:=decide (k < 0∨11 < k∨(t < 2∧¬ b = 0)∨(t < 1∧¬ a = 0)∨(0 < t∧(a < 0∨(i:Int)≤a))∨(1 < t∧(b < 0∨(i:Int)≤b)))
def bad2(sc pb k n:Int):Bool:=decide ((k = 1∧sc≤n)∨(k = 2∧pb≤n)∨(6≤k∧k≤8∧31 < n)∨(((3≤k∧k≤5)∨9≤k)∧¬ n = 0))
theorem fi_bad{sc pb:Int}{l:List Gt}{i:Nat}{g:Gt}:fiB sc pb l i g=(!(bad1 (tk g.k) g.k g.a g.b i) && (!(bad2 sc pb g.k (g.n.toNat:Int)) && (g.s==seB l g))):=by
 have hn:=g.n.isLt;have hle:=tk_le g.k;unfold fiB;have e1:(decide (0≤g.k∧g.k < 12) && (plc g.a i (decide (0 < tk g.k)) && plc g.b i (decide (1 < tk g.k)))) = !(bad1 (tk g.k) g.k g.a g.b i):=by
  unfold bad1 plc;generalize tk g.k=t at *;rw [Bool.eq_iff_iff];obtain rfl | rfl | rfl:t = 0∨t = 1∨t = 2:=by omega
  ·simp;omega
  ·simp;omega
  ·simp;omega
 rw [e1];by_cases hb:bad1 (tk g.k) g.k g.a g.b i=true
 ·rw [hb];rfl
 ·have hb':bad1 (tk g.k) g.k g.a g.b i=false:=by simpa using hb
  have e2:decide ((g.n.toNat:Int) < nmI sc pb g.k) = !(bad2 sc pb g.k (g.n.toNat:Int)):=by
   unfold bad1 at hb';have:=of_decide_eq_false hb';unfold bad2 nmI;rw [Bool.eq_iff_iff];simp only [Bool.not_eq_true',decide_eq_true_eq,decide_eq_false_iff_not]
   repeat' split
   all_goals omega
  rw [hb',e2]
theorem se0{l:List Gt}{g:Gt}(h:tk g.k = 0):seB l g=decide (g.k = 1):=by unfold seB;rw [h];rfl
theorem se1{l:List Gt}{g:Gt}(h:tk g.k = 1):seB l g=sG l g.a:=by unfold seB;rw [h];rfl
theorem se2{l:List Gt}{g:Gt}(h:tk g.k = 2):seB l g=(sG l g.a || sG l g.b):=by unfold seB;rw [h];rfl
theorem k_of1{k:Int}(h:tk k = 1):¬ k = 1:=fun e=>by subst e;cases h
theorem k_of2{k:Int}(h:tk k = 2):¬ k = 1:=fun e=>by subst e;cases h
theorem rcan(w:World){A:Option Addr}{cA:Nat}{B:Option Addr}{cB:Nat}{l:List Gt}{os:List TI}(hC:Cir w A cA B cB l os)(sc pb:Int) :
  Calls Tryz.prog 8 #[crV A l.length cA sc pb B os.length cB] w (BoP w (caB sc pb l os)):=by
 obtain ⟨w1,hw1,hb1,hX1,hs1⟩:=c_box w (crB A l.length cA sc pb B os.length cB);obtain ⟨e0,e1,e2,e3,z0,z1,z2,z3⟩:=Blk.c4 hX1;have hgl:=hX1.lt;have hr:=hC.rA;have hr2:=hC.rB;have HB:=Hi hb1;have HW:=Hi hw1;have HX:=Hi hX1;have HC:=Hi (hC.below hb1);have hca:caB sc pb l os=(cnt sc && cnt pb && decide (l.length≤8000) && (List.range l.length).all (fiL sc pb l) && !(os.any fun o=>!ouB l.length o)):=by rw [←ou_all];rfl
 have HNO:=Hi fun (i:Nat) (hi:i < l.length) (h:fiL sc pb l i=false)=>no_fi (os:=os) hi h
 have HYES:=Hi fun (h:∀ i,i < l.length→fiL sc pb l i=true)=>all_fi (sc:=sc) (pb:=pb) (l:=l) h
 unfold BoP;clear hw1 hb1 hX1 hs1 hC;by_cases hok:0≤sc∧sc≤1000∧0≤pb∧pb≤1000∧l.length≤8000;rotate_left
 ·have hz:caB sc pb l os=false:=by
   rw [hca];have:(cnt sc && cnt pb && decide (l.length≤8000))=false:=by
    rw [Bool.eq_false_iff];intro h;simp only [Bool.and_eq_true,decide_eq_true_eq,cnt] at h;exact hok ⟨h.1.1.1,h.1.1.2,h.1.2.1,h.1.2.2,h.2⟩
   rw [this];rfl
  rw [hz];clear hca HNO HYES hz;go_enter Tryz.func8,Tryz.ntmps8;go_upto_region 1 with fail
  rw [HW.out];by_cases h1:sc < 0
  ·go_wp2_with fail
   go_ret;exact ⟨rfl,HB.out⟩
  by_cases h2:1000 < sc
  ·go_wp2_with fail
   go_ret;exact ⟨rfl,HB.out⟩
  by_cases h3:pb < 0
  ·go_wp2_with fail
   go_ret;exact ⟨rfl,HB.out⟩
  by_cases h4:1000 < pb
  ·go_wp2_with fail
   go_ret;exact ⟨rfl,HB.out⟩
  have h5:(8000:Int) < (l.length:Int):=by omega
  go_wp2_with fail
  go_ret;exact ⟨rfl,HB.out⟩
 obtain ⟨hs1,hs2,hp1,hp2,hl⟩:=hok;have HCA:=Hi (show (List.range l.length).all (fiL sc pb l)=true→caB sc pb l os = !(os.any fun o=>!ouB l.length o) from fun h=>by
  rw [hca,h,decide_eq_true hl];unfold cnt;rw [decide_eq_true ⟨hs1,hs2⟩,decide_eq_true ⟨hp1,hp2⟩];rfl)
 have n1:¬ sc < 0:=by omega
 have n2:¬ 1000 < sc:=by omega
 have n3:¬ pb < 0:=by omega
 have n4:¬ 1000 < pb:=by omega
 have n5:¬ (8000:Int) < (l.length:Int):=by omega
 clear hca;go_enter Tryz.func8,Tryz.ntmps8;go_upto_region 1 with fail
 rw [HW.out];go_wp2_with fail
 clear e0 e1 e2 e3 z0 z1 z2 z3 hgl n1 n2 n3 n4 n5
 go_loopw [3] (fun vi wr=>∃ i:Nat,i≤l.length∧vi = .int .i64 (i:Int)∧Hid (Below w1.heap.size w1 wr)∧Hid (∀ j,j < i→fiL sc pb l j=true)) (fun vi _=>l.length - (intOf vi).toNat)
 case atStart=>exact ⟨0,by omega,rfl,Hi (Below.refl _ _),Hi fun j hj=>absurd hj (by omega)⟩
 case round=>
  obtain ⟨i,hi,rfl,HR,HQ⟩:=hrel;have hX:=HX.out.below HR.out HX.out.lt;obtain ⟨e0,e1,e2,e3,z0,z1,z2,z3⟩:=Blk.c4 hX;have hgl:=hX.lt;by_cases hlt:i < l.length
  ·have hil:(i:Int) < (l.length:Int):=by omega
   obtain ⟨⟨k,a,b,n,s⟩,hg⟩:∃ g,l[i]?=some g:=⟨_,List.getElem?_eq_getElem hlt⟩;have hfb:=fiL_at (sc:=sc) (pb:=pb) hg;rw [fi_bad] at hfb;dsimp only at hfb;have hle:=tk_le k;obtain ⟨t,ht⟩:∃ t,tk k=t:=⟨_,rfl⟩;obtain ⟨se,hse⟩:∃ se,seB l ⟨k,a,b,n,s⟩=se:=⟨_,rfl⟩;rw [hse,ht] at hfb;rw [ht] at hle;have HFB:=Hi hfb;have HSE:=Hi hse;have HLE:=Hi hle;have hCr:=HC.out.below HR.out;have HCr:=Hi hCr;obtain ⟨p,o,rfl,hpl,c0,c1,c2,c3,c4⟩:=hCr.gate hg;dsimp only at c0 c1 c2 c3 c4;obtain ⟨w3,hw3,hb3,hY3,hs3⟩:=g_box wr (gB ⟨k,a,b,n,s⟩);obtain ⟨⟨y0,y1,y2,y3,y4⟩,f0,f1,f2,f3,f4⟩:=Blk.c5 hY3;dsimp only at y0 y1 y2 y3 y4;have hyl:=hY3.lt;have hX3:=hX.below hb3 hX.lt;have HW3:=Hi (show wr.alloc (.cells #[.int .i64 k,.int .i64 a,.int .i64 b,u n,.bool s] 37)=w3 from hw3);have HR3:=Hi (HR.out.trans (hb3.mono HR.out.size));have HC3:=Hi (hCr.below hb3);have HT:=Hi (rtakes w3 k);rw [ht] at HT;have HTK:=Hi ht;have HG:=Hi hg;have hbx:=Blk.c4 hX3;have hgx:=hX3.lt;clear hw3 hb3 hY3 hs3 hfb hse hle hCr hX3 ht hg;go_upto_region 7 with fail
   rw [HW3.out];clear e0 e1 e2 e3 z0 z1 z2 z3 hgl c0 c1 c2 c3 c4 hpl hX;obtain ⟨e0,e1,e2,e3,z0,z1,z2,z3⟩:=hbx;go_upto_region 8 with (go_at_call 22;refine (show Calls Tryz.prog 22 #[.int .i64 k] w3 _ from HT.out).mono ?_;rintro e w4 ⟨rfl,rfl⟩)
   obtain hle:=HLE.out
   go_cut [102] from 47 to 102 (fun c wx=>c = .bool (bad1 t k a b i)∧wx=w4)
   case first=>
    by_cases q1:k < 0
    ·have d0:decide (k < 0)=true:=decide_eq_true q1;go_wp2_with fail
     go_meet
     exact ⟨congrArg Value.bool (show true=bad1 t k a b i from by unfold bad1;exact (decide_eq_true (by omega)).symm),rfl⟩
    have p1:decide (k < 0)=false:=decide_eq_false q1;by_cases q2:11 < k
    ·have d0:decide (11 < k)=true:=decide_eq_true q2;go_wp2_with fail
     go_meet
     exact ⟨congrArg Value.bool (show true=bad1 t k a b i from by unfold bad1;exact (decide_eq_true (by omega)).symm),rfl⟩
    have p2:decide (11 < k)=false:=decide_eq_false q2;obtain rfl | rfl | rfl:t = 0∨t = 1∨t = 2:=by omega
    ·by_cases qb:b = 0;rotate_left
     ·have dn:(b != 0)=true:=by simp [qb]
      go_wp2_with fail
      go_meet
      exact ⟨congrArg Value.bool (show true=bad1 0 k a b i from by unfold bad1;exact (decide_eq_true (by omega)).symm),rfl⟩
     have wzb:(b != 0)=false:=by simp [qb]
     have HQb:=Hi qb;clear qb;by_cases qa:a = 0;rotate_left
     ·have dn:(a != 0)=true:=by simp [qa]
      go_wp2_with fail
      go_meet
      exact ⟨congrArg Value.bool (show true=bad1 0 k a b i from by unfold bad1;exact (decide_eq_true (by omega)).symm),rfl⟩
     have wza:(a != 0)=false:=by simp [qa]
     have HQa:=Hi qa;clear qa;go_wp2_with fail
     go_meet
     have z0b:=HQb.out;have z0a:=HQa.out;exact ⟨congrArg Value.bool (show false=bad1 0 k a b i from by unfold bad1;exact (decide_eq_false (by omega)).symm),rfl⟩
    ·by_cases qb:b = 0;rotate_left
     ·have dn:(b != 0)=true:=by simp [qb]
      go_wp2_with fail
      go_meet
      exact ⟨congrArg Value.bool (show true=bad1 1 k a b i from by unfold bad1;exact (decide_eq_true (by omega)).symm),rfl⟩
     have wzb:(b != 0)=false:=by simp [qb]
     have HQb:=Hi qb;clear qb;by_cases qla:a < 0
     ·have dn:decide (a < 0)=true:=decide_eq_true qla;go_wp2_with fail
      go_meet
      exact ⟨congrArg Value.bool (show true=bad1 1 k a b i from by unfold bad1;exact (decide_eq_true (by omega)).symm),rfl⟩
     have wla:decide (a < 0)=false:=decide_eq_false qla;by_cases qha:(i:Int)≤a
     ·have dn:decide ((i:Int)≤a)=true:=decide_eq_true qha;go_wp2_with fail
      go_meet
      exact ⟨congrArg Value.bool (show true=bad1 1 k a b i from by unfold bad1;exact (decide_eq_true (by omega)).symm),rfl⟩
     have wha:decide ((i:Int)≤a)=false:=decide_eq_false qha;go_wp2_with fail
     go_meet
     have z0b:=HQb.out;exact ⟨congrArg Value.bool (show false=bad1 1 k a b i from by unfold bad1;exact (decide_eq_false (by omega)).symm),rfl⟩
    ·by_cases qla:a < 0
     ·have dn:decide (a < 0)=true:=decide_eq_true qla;go_wp2_with fail
      go_meet
      exact ⟨congrArg Value.bool (show true=bad1 2 k a b i from by unfold bad1;exact (decide_eq_true (by omega)).symm),rfl⟩
     have wla:decide (a < 0)=false:=decide_eq_false qla;by_cases qha:(i:Int)≤a
     ·have dn:decide ((i:Int)≤a)=true:=decide_eq_true qha;go_wp2_with fail
      go_meet
      exact ⟨congrArg Value.bool (show true=bad1 2 k a b i from by unfold bad1;exact (decide_eq_true (by omega)).symm),rfl⟩
     have wha:decide ((i:Int)≤a)=false:=decide_eq_false qha;by_cases qlb:b < 0
     ·have dn:decide (b < 0)=true:=decide_eq_true qlb;go_wp2_with fail
      go_meet
      exact ⟨congrArg Value.bool (show true=bad1 2 k a b i from by unfold bad1;exact (decide_eq_true (by omega)).symm),rfl⟩
     have wlb:decide (b < 0)=false:=decide_eq_false qlb;by_cases qhb:(i:Int)≤b
     ·have dn:decide ((i:Int)≤b)=true:=decide_eq_true qhb;go_wp2_with fail
      go_meet
      exact ⟨congrArg Value.bool (show true=bad1 2 k a b i from by unfold bad1;exact (decide_eq_true (by omega)).symm),rfl⟩
     have whb:decide ((i:Int)≤b)=false:=decide_eq_false qhb;go_wp2_with fail
     go_meet
     exact ⟨congrArg Value.bool (show false=bad1 2 k a b i from by unfold bad1;exact (decide_eq_false (by omega)).symm),rfl⟩
   case rest=>
    obtain ⟨rfl,hwc⟩:=hcut;replace hwc:=hwc.symm;subst hwc;obtain ⟨b1,hb1⟩:∃ b1,bad1 t k a b i=b1:=⟨_,rfl⟩;rw [hb1];have HFB:=HFB;rw [hb1] at HFB;cases b1 with
    | true=>
     have HZ:=Hi (HNO.out i hlt HFB.out);have HEND:=Hi (HB.out.trans (HR3.out.mono HB.out.size));go_wp2_with fail
     go_ret;exact ⟨(congrArg (fun b=>Ending.returned (Value.bool b)) HZ.out).symm,HEND.out⟩
    | false=>
     have hb1':=hb1;unfold bad1 at hb1';have hgood:=of_decide_eq_false hb1';have k0:0≤k:=by omega
     have k11:k≤11:=by omega
     have HGOOD:=Hi hgood;clear hb1 hb1' hgood;have hcn:IntKind.i64.wrap (n.toNat:Int)=(n.toNat:Int):=by rw [IntKind.wrap_i64];have:=n.isLt;omega
     go_upto_region 10 with fail
     go_cut [161] from 103 to 161 (fun c wx=>c = .bool (bad2 sc pb k (n.toNat:Int))∧wx=w4)
     case first=>
      by_cases q1:k = 1
      ·subst q1;by_cases q:sc≤(n.toNat:Int)
       ·have d0:decide (sc≤(n.toNat:Int))=true:=decide_eq_true (by omega);go_wp2_with fail
        go_meet
        exact ⟨congrArg Value.bool (show true=bad2 sc pb 1 (n.toNat:Int) from by unfold bad2;exact (decide_eq_true (by omega)).symm),rfl⟩
       have d0:decide (sc≤(n.toNat:Int))=false:=decide_eq_false (by omega);go_wp2_with fail
       go_meet
       exact ⟨congrArg Value.bool (show false=bad2 sc pb 1 (n.toNat:Int) from by unfold bad2;exact (decide_eq_false (by omega)).symm),rfl⟩
      by_cases q2:k = 2
      ·subst q2;by_cases q:pb≤(n.toNat:Int)
       ·have d0:decide (pb≤(n.toNat:Int))=true:=decide_eq_true (by omega);go_wp2_with fail
        go_meet
        exact ⟨congrArg Value.bool (show true=bad2 sc pb 2 (n.toNat:Int) from by unfold bad2;exact (decide_eq_true (by omega)).symm),rfl⟩
       have d0:decide (pb≤(n.toNat:Int))=false:=decide_eq_false (by omega);go_wp2_with fail
       go_meet
       exact ⟨congrArg Value.bool (show false=bad2 sc pb 2 (n.toNat:Int) from by unfold bad2;exact (decide_eq_false (by omega)).symm),rfl⟩
      have e1':(k==1)=false:=by simp [q1]
      have e2':(k==2)=false:=by simp [q2]
      by_cases q6:6≤k
      ·by_cases q8:k≤8
       ·by_cases q:31 < (n.toNat:Int)
        ·have d0:decide (6≤k)=true:=decide_eq_true (by omega);have d1:decide (k≤8)=true:=decide_eq_true (by omega);have d2:decide (31 < (n.toNat:Int))=true:=decide_eq_true (by omega);go_wp2_with fail
         go_meet
         exact ⟨congrArg Value.bool (show true=bad2 sc pb k (n.toNat:Int) from by unfold bad2;exact (decide_eq_true (by omega)).symm),rfl⟩
        have d0:decide (6≤k)=true:=decide_eq_true (by omega);have d1:decide (k≤8)=true:=decide_eq_true (by omega);have d2:decide (31 < (n.toNat:Int))=false:=decide_eq_false (by omega);have d3:decide (3≤k)=true:=decide_eq_true (by omega);have d4:decide (k≤5)=false:=decide_eq_false (by omega);have d5:decide (9≤k)=false:=decide_eq_false (by omega);go_wp2_with fail
        go_meet
        exact ⟨congrArg Value.bool (show false=bad2 sc pb k (n.toNat:Int) from by unfold bad2;exact (decide_eq_false (by omega)).symm),rfl⟩
       by_cases q:(n.toNat:Int) = 0
       ·have d0:decide (6≤k)=true:=decide_eq_true (by omega);have d1:decide (k≤8)=false:=decide_eq_false (by omega);have d2:decide (3≤k)=true:=decide_eq_true (by omega);have d3:decide (k≤5)=false:=decide_eq_false (by omega);have d4:decide (9≤k)=true:=decide_eq_true (by omega);have d5:((n.toNat:Int) != 0)=false:=by simp [q]
        go_wp2_with fail
        go_meet
        exact ⟨congrArg Value.bool (show false=bad2 sc pb k (n.toNat:Int) from by unfold bad2;exact (decide_eq_false (by omega)).symm),rfl⟩
       have d0:decide (6≤k)=true:=decide_eq_true (by omega);have d1:decide (k≤8)=false:=decide_eq_false (by omega);have d2:decide (3≤k)=true:=decide_eq_true (by omega);have d3:decide (k≤5)=false:=decide_eq_false (by omega);have d4:decide (9≤k)=true:=decide_eq_true (by omega);have d5:((n.toNat:Int) != 0)=true:=by simpa using q
       go_wp2_with fail
       go_meet
       exact ⟨congrArg Value.bool (show true=bad2 sc pb k (n.toNat:Int) from by unfold bad2;exact (decide_eq_true (by omega)).symm),rfl⟩
      by_cases q3:3≤k
      ·by_cases q:(n.toNat:Int) = 0
       ·have d0:decide (6≤k)=false:=decide_eq_false (by omega);have d1:decide (3≤k)=true:=decide_eq_true (by omega);have d2:decide (k≤5)=true:=decide_eq_true (by omega);have d3:((n.toNat:Int) != 0)=false:=by simp [q]
        go_wp2_with fail
        go_meet
        exact ⟨congrArg Value.bool (show false=bad2 sc pb k (n.toNat:Int) from by unfold bad2;exact (decide_eq_false (by omega)).symm),rfl⟩
       have d0:decide (6≤k)=false:=decide_eq_false (by omega);have d1:decide (3≤k)=true:=decide_eq_true (by omega);have d2:decide (k≤5)=true:=decide_eq_true (by omega);have d3:((n.toNat:Int) != 0)=true:=by simpa using q
       go_wp2_with fail
       go_meet
       exact ⟨congrArg Value.bool (show true=bad2 sc pb k (n.toNat:Int) from by unfold bad2;exact (decide_eq_true (by omega)).symm),rfl⟩
      have d0:decide (6≤k)=false:=decide_eq_false (by omega);have d1:decide (3≤k)=false:=decide_eq_false (by omega);have d2:decide (9≤k)=false:=decide_eq_false (by omega);go_wp2_with fail
      go_meet
      exact ⟨congrArg Value.bool (show false=bad2 sc pb k (n.toNat:Int) from by unfold bad2;exact (decide_eq_false (by omega)).symm),rfl⟩
     case rest=>
      obtain ⟨rfl,hwc⟩:=hcut;replace hwc:=hwc.symm;subst hwc;obtain ⟨b2,hb2⟩:∃ b2,bad2 sc pb k (n.toNat:Int)=b2:=⟨_,rfl⟩;rw [hb2];rw [hb2] at HFB;cases b2 with
      | true=>
       have HZ:=Hi (HNO.out i hlt HFB.out);have HEND:=Hi (HB.out.trans (HR3.out.mono HB.out.size));go_wp2_with fail
       go_ret;exact ⟨(congrArg (fun b=>Ending.returned (Value.bool b)) HZ.out).symm,HEND.out⟩
      | false=>
       clear hb2 hcn;go_upto_region 12 with fail
       go_cut [6] from 162 to 190 (fun c wx=>c = .bool se∧wx=w4)
       case first=>
        obtain rfl | rfl | rfl:t = 0∨t = 1∨t = 2:=by omega
        ·have HS:=Hi ((se0 (l:=l) (g:=⟨k,a,b,n,s⟩) HTK.out).symm.trans HSE.out);by_cases q1:k = 1
         ·subst q1;go_wp2_with fail
          go_meet
          exact ⟨congrArg Value.bool (show true=se from HS.out),rfl⟩
         have e1':(k==1)=false:=by simp [q1]
         go_wp2_with fail
         go_meet
         exact ⟨congrArg Value.bool ((decide_eq_false q1).symm.trans HS.out),rfl⟩
        ·have hse:=(se1 (l:=l) (g:=⟨k,a,b,n,s⟩) HTK.out).symm.trans HSE.out;have e1':(k==1)=false:=by have:=k_of1 HTK.out;simp [this]
         obtain ⟨ja,rfl⟩:∃ ja:Nat,a=(ja:Int):=⟨a.toNat,by have:=HGOOD.out;omega⟩;have hja:ja < i:=by have:=HGOOD.out;omega
         obtain ⟨x,hx⟩:∃ x,l[ja]?=some x:=⟨_,List.getElem?_eq_getElem (by omega)⟩;rw [show sG l (Gt.a ⟨k,(ja:Int),b,n,s⟩)=x.s from sG_is (by simpa using hx)] at hse;obtain ⟨p',o',hp',_,m0,m1,m2,m3,m4⟩:=HC3.out.gate hx;simp only [Option.some.injEq,Addr.mk.injEq,and_true] at hp';obtain ⟨rfl,rfl⟩:=hp';have hil':(ja:Int) < (l.length:Int):=by omega
         have HS:=Hi hse;clear m0 m1 m2 m3 hse;generalize x.s=xs at m4 HS;cases xs with
         | true=>
          go_wp2_with fail
          go_meet
          exact ⟨congrArg Value.bool (show true=se from HS.out),rfl⟩
         | false=>
          go_wp2_with fail
          go_meet
          exact ⟨congrArg Value.bool (show false=se from HS.out),rfl⟩
        ·have hse:=(se2 (l:=l) (g:=⟨k,a,b,n,s⟩) HTK.out).symm.trans HSE.out;have e1':(k==1)=false:=by have:=k_of2 HTK.out;simp [this]
         obtain ⟨ja,rfl⟩:∃ ja:Nat,a=(ja:Int):=⟨a.toNat,by have:=HGOOD.out;omega⟩;obtain ⟨jb,rfl⟩:∃ jb:Nat,b=(jb:Int):=⟨b.toNat,by have:=HGOOD.out;omega⟩;have hja:ja < i:=by have:=HGOOD.out;omega
         have hjb:jb < i:=by have:=HGOOD.out;omega
         obtain ⟨x,hx⟩:∃ x,l[ja]?=some x:=⟨_,List.getElem?_eq_getElem (by omega)⟩;obtain ⟨y,hy⟩:∃ y,l[jb]?=some y:=⟨_,List.getElem?_eq_getElem (by omega)⟩;rw [show sG l (Gt.a ⟨k,(ja:Int),(jb:Int),n,s⟩)=x.s from sG_is (by simpa using hx),show sG l (Gt.b ⟨k,(ja:Int),(jb:Int),n,s⟩)=y.s from sG_is (by simpa using hy)] at hse;obtain ⟨p',o',hp',_,m0,m1,m2,m3,m4⟩:=HC3.out.gate hx;simp only [Option.some.injEq,Addr.mk.injEq,and_true] at hp';obtain ⟨rfl,rfl⟩:=hp';obtain ⟨p',o',hp',_,m0',m1',m2',m3',m4'⟩:=HC3.out.gate hy;simp only [Option.some.injEq,Addr.mk.injEq,and_true] at hp';obtain ⟨rfl,rfl⟩:=hp';have hil':(ja:Int) < (l.length:Int):=by omega
         have hil'':(jb:Int) < (l.length:Int):=by omega
         have HS:=Hi hse;clear m0 m1 m2 m3 m0' m1' m2' m3' hse;generalize x.s=xs at m4 HS;generalize y.s=ys at m4' HS;cases xs with
         | true=>
          go_wp2_with fail
          go_meet
          exact ⟨congrArg Value.bool (show true=se from HS.out),rfl⟩
         | false=>
          go_wp2_with fail
          go_meet
          exact ⟨congrArg Value.bool (show ys=se from HS.out),rfl⟩
       case rest=>
        obtain ⟨rfl,hwc⟩:=hcut;replace hwc:=hwc.symm;subst hwc;by_cases hss:s=se
        ·subst hss;have hne:(s != s)=false:=by simp
         have HQ2:=Hi (show ∀ j,j < i+1→fiL sc pb l j=true from fun j hj=>by
          by_cases h:j < i
          ·exact HQ.out j h
          ·obtain rfl:j=i:=by omega
           rw [HFB.out];simp)
         go_wp2_with fail
         go_roundw
         case rel=>exact ⟨i+1,by omega,by go_num,HR3,HQ2⟩
         case measure=>simp [intOf];omega
        ·cases s <;> cases se
         ·exact absurd rfl hss
         ·have HZ:=Hi (HNO.out i hlt (by rw [HFB.out];rfl));have HEND:=Hi (HB.out.trans (HR3.out.mono HB.out.size));go_wp2_with fail
          go_ret;exact ⟨(congrArg (fun b=>Ending.returned (Value.bool b)) HZ.out).symm,HEND.out⟩
         ·have HZ:=Hi (HNO.out i hlt (by rw [HFB.out];rfl));have HEND:=Hi (HB.out.trans (HR3.out.mono HB.out.size));go_wp2_with fail
          go_ret;exact ⟨(congrArg (fun b=>Ending.returned (Value.bool b)) HZ.out).symm,HEND.out⟩
         ·exact absurd rfl hss
  ·obtain rfl:i=l.length:=by omega
   have HZ:=Hi (HCA.out (HYES.out HQ.out));clear hX;have HAB:=Hi (HB.out.trans (HR.out.mono HB.out.size));have HXR:=Hi (HX.out.below HR.out HX.out.lt);have HCR:=Hi (HC.out.below HR.out);have HO:=Hi hr2;go_wp2_with fail
   clear e0 e1 e2 e3 z0 z1 z2 z3 hgl;obtain ⟨wq,hwq⟩:∃ wq:World,wq=wr:=⟨_,rfl⟩;subst hwq
   go_loopw [7] (fun vi wr=>∃ m:Nat,m≤os.length∧vi = .int .i64 (m:Int)∧Hid (Below wq.heap.size wq wr)∧Hid (∀ j y,j < m→os[j]?=some y→(!ouB l.length y)=false)) (fun vi _=>os.length - (intOf vi).toNat)
   case atStart=>exact ⟨0,by omega,rfl,Hi (Below.refl _ _),Hi fun j y hj=>absurd hj (by omega)⟩
   case round=>
    obtain ⟨m,hm,rfl,HR2,HQ2⟩:=hrel;have hX:=HXR.out.below HR2.out HXR.out.lt;obtain ⟨e0,e1,e2,e3,z0,z1,z2,z3⟩:=Blk.c4 hX;have hgl:=hX.lt;have hab:=HAB.out.trans (HR2.out.mono HAB.out.size);have hol:os.length≤9223372036854775807:=by have:=HO.out;omega
    by_cases hmt:m < os.length
    ·have hml:(m:Int) < (os.length:Int):=by omega
     obtain ⟨⟨s,n⟩,hy⟩:∃ y,os[m]?=some y:=⟨_,List.getElem?_eq_getElem hmt⟩;obtain ⟨p,o,rfl,hpl,c0,c1⟩:=(HCR.out.below HR2.out).out hy;dsimp only at c0 c1;have HY:=Hi hy;have HAB2:=Hi hab;have hou:ouB l.length ⟨s,n⟩=decide (0≤n∧n < (l.length:Int)):=rfl;have HOU:=Hi hou;clear hy hab hX hou;have HANY:=Hi fun (h:(!ouB l.length ⟨s,n⟩)=true)=>(show os.any (fun o=>!ouB l.length o)=true from List.any_eq_true.2 ⟨⟨s,n⟩,List.mem_of_getElem? HY.out,h⟩)
     by_cases q1:n < 0
     ·have d1:decide (n < 0)=true:=decide_eq_true q1;have HZ2:=Hi (HZ.out.trans (congrArg (!·) (HANY.out (by rw [HOU.out,decide_eq_false (by omega)];rfl))));go_wp2_with fail
      go_quiet (fail)
      go_wp2_with fail
      go_ret;exact ⟨(congrArg (fun b=>Ending.returned (Value.bool b)) HZ2.out).symm,HAB2.out.trans (Below.mono (Upd.below (drewU (fun _=>False) _ _) (Nat.le_refl _) nofun) HAB2.out.size)⟩
     have d1:decide (n < 0)=false:=decide_eq_false q1;by_cases q2:(l.length:Int)≤n
     ·have d2:decide ((l.length:Int)≤n)=true:=decide_eq_true q2;have HZ2:=Hi (HZ.out.trans (congrArg (!·) (HANY.out (by rw [HOU.out,decide_eq_false (by omega)];rfl))));go_wp2_with fail
      go_quiet (fail)
      go_wp2_with fail
      go_ret;exact ⟨(congrArg (fun b=>Ending.returned (Value.bool b)) HZ2.out).symm,HAB2.out.trans (Below.mono (Upd.below (drewU (fun _=>False) _ _) (Nat.le_refl _) nofun) HAB2.out.size)⟩
     have d2:decide ((l.length:Int)≤n)=false:=decide_eq_false q2;have HN:=Hi (show ∀ j z,j < m+1→os[j]?=some z→(!ouB l.length z)=false from fun j z hj hz=>by
      by_cases h:j < m
      ·exact HQ2.out j z h hz
      ·obtain rfl:j=m:=by omega
       rw [HY.out] at hz;obtain rfl:=Option.some.inj hz;rw [HOU.out,decide_eq_true (by omega)];rfl)
     go_wp2_with fail
     go_quiet (fail)
     go_wp2_with fail
     go_roundw
     case rel=>exact ⟨m+1,by omega,by go_num,Hi (HR2.out.trans (Below.mono (Upd.below (drewU (fun _=>False) _ _) (Nat.le_refl _) nofun) HR2.out.size)),HN⟩
     case measure=>simp [intOf];omega
    ·have HANY:=Hi (show os.any (fun o=>!ouB l.length o)=false from by
      rw [List.any_eq_false];intro y hy;obtain ⟨j,hj⟩:=List.getElem?_of_mem hy;have hjl:=(List.getElem?_eq_some_iff.1 hj).1;rw [HQ2.out j y (by omega) hj];decide)
     have HZ2:=Hi (HZ.out.trans (congrArg (!·) HANY.out));have HAB2:=Hi hab;clear hX hab;go_wp2_with fail
     go_ret;exact ⟨(congrArg (fun b=>Ending.returned (Value.bool b)) HZ2.out).symm,HAB2.out⟩
end Go.Proofs.YtdhoemlomojfaaaGreatDoor.Ci
