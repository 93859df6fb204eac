/- DERIVED. CiMd, HeldTail, Squash. By an AI agent. -/
import Derived.Test.YtdhoemlomojfaaaGreatDoorW01
import Derived.Test.YtdhoemlomojfaaaGreatDoorW02
import Derived.Deep.RegionHeld
import Derived.ProofKit
import Derived.Below
set_option maxRecDepth 100000
set_option maxHeartbeats 4000000
set_option linter.unusedVariables false
set_option linter.unusedSimpArgs false
namespace Go.Proofs.YtdhoemlomojfaaaGreatDoor.Ci
open Go Go.ChangeShapes Go.WideShapes Go.ChangeAt Go.RowKit Args WMath Word
theorem gate_at{w:World}{A:Option Addr}{l:List Gt}(h:Lies w A (l.flatMap Gt.cells)){i:Nat}{g:Gt}(hg:l[i]?=some g) :
  ∃ b o,A=some ⟨b,o,none⟩∧b < w.heap.size∧w.cell? ⟨b,o+i * 5,none⟩=some (.int .i64 g.k)∧w.cell? ⟨b,o+i * 5+1,none⟩=some (.int .i64 g.a)∧w.cell? ⟨b,o+i * 5+2,none⟩=some (.int .i64 g.b)∧w.cell? ⟨b,o+i * 5+3,none⟩=some (u g.n)∧w.cell? ⟨b,o+i * 5+4,none⟩=some (.bool g.s):=by
 have f:=flat5 l i g hg;obtain ⟨b,o,hA,hlt,hc⟩:=h.at_ (f 0 (by decide));refine ⟨b,o,hA,hlt,hc _ _ (f 0 (by decide)),?_,?_,?_,?_⟩
 ·exact hc _ _ (f 1 (by decide))
 ·exact hc _ _ (f 2 (by decide))
 ·exact hc _ _ (f 3 (by decide))
 ·exact hc _ _ (f 4 (by decide))
theorem sG_is{l:List Gt}{a:Int}{g:Gt}(h:l[a.toNat]?=some g):sG l a=g.s:=by unfold sG;rw [h];rfl
theorem secret(w:World){A:Option Addr}{cA:Nat}{l:List Gt}(hL:Lies w A (l.flatMap Gt.cells))(hl:l.length≤9223372036854775807)(g:Gt)
  (ha:0 < tk g.k→g.a.toNat < l.length∧g.a=(g.a.toNat:Int)) (hb:1 < tk g.k→g.b.toNat < l.length∧g.b=(g.b.toNat:Int)) :
  Calls Tryz.prog 31 #[.slice A l.length cA,gA g] w fun e w'=>e = .returned (.bool (seB l g))∧Below w.heap.size w w':=by
 obtain ⟨w1,hw1,hb1,hX1,hs1⟩:=g_box w (gB g);have hL1:=hL.below hb1;obtain ⟨⟨e0,e1,e2,e3,e4⟩,z0,z1,z2,z3,z4⟩:=Blk.c5 hX1;have hgl:=hX1.lt;have HB:=Hi hb1;have HW:=Hi hw1;have HT:=Hi (takes w1 g.k);obtain ⟨k,a,b,n,s⟩:=g;have h2:=tk_le k;dsimp only at *;unfold seB;dsimp only;have hseA:∀ x:Gt,l[a.toNat]?=some x→sG l a=x.s:=fun x hx=>sG_is hx
 have hseB:∀ x:Gt,l[b.toNat]?=some x→sG l b=x.s:=fun x hx=>sG_is hx
 generalize sG l a=ra at hseA ⊢;generalize sG l b=rb at hseB ⊢;obtain ⟨t,ht⟩:∃ t,tk k=t:=⟨_,rfl⟩;rw [ht] at HT ha hb h2 ⊢;clear hw1 hb1 hX1 hs1 ht hL
 match t,h2 with
 | 0,_=>
  rw [if_neg (by decide),if_neg (by decide)];clear ha hb hL1 hseA hseB;by_cases hk:k = 1
  ·subst hk;go_enter Tryz.func31,Tryz.ntmps31;go_upto_region 1 with fail
   rw [HW.out];go_wp2_with fail
   refine (show Calls Tryz.prog 28 #[.int .i64 1] w1 _ from HT.out).mono ?_;rintro e w' ⟨rfl,rfl⟩;go_wp2_with fail
   go_ret;exact ⟨rfl,HB.out⟩
  ·rw [decide_eq_false hk];have hz:(k==1)=false:=by simp [hk]
   go_enter Tryz.func31,Tryz.ntmps31;go_upto_region 1 with fail
   rw [HW.out];go_wp2_with fail
   refine (show Calls Tryz.prog 28 #[.int .i64 k] w1 _ from HT.out).mono ?_;rintro e w' ⟨rfl,rfl⟩;go_wp2_with fail
   go_ret;exact ⟨rfl,HB.out⟩
 | 1,_=>
  rw [if_pos rfl];obtain ⟨ha1,ha2⟩:=ha (by decide);obtain ⟨i,hi⟩:∃ i:Nat,a.toNat=i:=⟨_,rfl⟩;rw [hi] at ha1 ha2 hseA;subst ha2;obtain ⟨x,hx⟩:∃ x,l[i]?=some x:=⟨_,List.getElem?_eq_getElem ha1⟩;rw [hseA x hx];obtain ⟨p,o,rfl,hlt,c0,c1,c2,c3,c4⟩:=gate_at hL1 hx;have hil:(i:Int) < (l.length:Int):=by omega
  clear hL1 hseA hseB ha hb c0 c1 c2 c3 hi hx;generalize x.s=xs at c4 ⊢;generalize l.length=L at *;go_enter Tryz.func31,Tryz.ntmps31;go_upto_region 1 with fail
  rw [HW.out];go_wp2_with fail
  refine (show Calls Tryz.prog 28 #[.int .i64 k] w1 _ from HT.out).mono ?_;rintro e w' ⟨rfl,rfl⟩;go_wp2_with fail
  go_ret;exact ⟨rfl,HB.out⟩
 | 2,_=>
  rw [if_neg (by decide),if_pos rfl];obtain ⟨ha1,ha2⟩:=ha (by decide);obtain ⟨hb1,hb2⟩:=hb (by decide);obtain ⟨i,hi⟩:∃ i:Nat,a.toNat=i:=⟨_,rfl⟩;obtain ⟨j,hj⟩:∃ j:Nat,b.toNat=j:=⟨_,rfl⟩;rw [hi] at ha1 ha2 hseA;rw [hj] at hb1 hb2 hseB;subst ha2 hb2;obtain ⟨x,hx⟩:∃ x,l[i]?=some x:=⟨_,List.getElem?_eq_getElem ha1⟩;obtain ⟨y,hy⟩:∃ y,l[j]?=some y:=⟨_,List.getElem?_eq_getElem hb1⟩;rw [hseA x hx,hseB y hy];obtain ⟨p,o,rfl,hlt,c0,c1,c2,c3,c4⟩:=gate_at hL1 hx;obtain ⟨p',o',hp,_,d0,d1,d2,d3,d4⟩:=gate_at hL1 hy;simp only [Option.some.injEq,Addr.mk.injEq,and_true] at hp;obtain ⟨rfl,rfl⟩:=hp;have hil:(i:Int) < (l.length:Int):=by omega
  have hjl:(j:Int) < (l.length:Int):=by omega
  clear hL1 hseA hseB ha hb c0 c1 c2 c3 d0 d1 d2 d3 hi hj hx hy;generalize x.s=xs at c4 ⊢;generalize y.s=ys at d4 ⊢;generalize l.length=L at *;cases xs with
  | true=>
   go_enter Tryz.func31,Tryz.ntmps31;go_upto_region 1 with fail
   rw [HW.out];go_wp2_with fail
   refine (show Calls Tryz.prog 28 #[.int .i64 k] w1 _ from HT.out).mono ?_;rintro e w' ⟨rfl,rfl⟩;go_wp2_with fail
   go_ret;exact ⟨rfl,HB.out⟩
  | false=>
   rw [Bool.false_or];go_enter Tryz.func31,Tryz.ntmps31;go_upto_region 1 with fail
   rw [HW.out];go_wp2_with fail
   refine (show Calls Tryz.prog 28 #[.int .i64 k] w1 _ from HT.out).mono ?_;rintro e w' ⟨rfl,rfl⟩;go_wp2_with fail
   go_ret;exact ⟨rfl,HB.out⟩
theorem atU(w:World)(A:Option Addr)(c:Nat)(ws:List (BitVec 32))(hL:Lies w A (ws.map u))(k:Nat)(hl:ws.length≤9223372036854775807) :
  Calls Tryz.prog 35 #[.slice A ws.length c,.int .i64 (k:Int)] w fun e w'=>e = .returned (u (ws.getD k 0))∧w'=w:=by
 by_cases hlt:k < ws.length
 ·obtain ⟨x,hx⟩:∃ x,ws[k]?=some x:=⟨_,List.getElem?_eq_getElem hlt⟩;have f1:(ws.map u)[k]?=some (u x):=by rw [List.getElem?_map,hx];rfl
  obtain ⟨b,o,rfl,_,hc1⟩:=hL.at_ f1;have e1:=hc1 _ _ f1;have hr:ws.getD k 0=x:=by rw [List.getD_eq_getElem?_getD,hx];rfl
  rw [hr];clear hL hc1 f1 hx hr;go_enter Tryz.func35,Tryz.ntmps35;go_wp2_with fail
  go_ret;exact ⟨rfl,rfl⟩
 ·have hr:ws.getD k 0 = 0:=by rw [List.getD_eq_getElem?_getD,List.getElem?_eq_none (by omega)];rfl
  rw [hr];clear hL hr;go_enter Tryz.func35,Tryz.ntmps35;go_wp2_with fail
  go_ret;exact ⟨rfl,rfl⟩
theorem shifted(w:World)(k:Int)(a n:BitVec 32):Calls Tryz.prog 44 #[.int .i64 k,u a,u n] w fun e w'=>e = .returned (u (shV k a n.toNat))∧w'=w:=by
 have HS:=Hi (shift k a n.toNat n.isLt false w);go_enter Tryz.func44,Tryz.ntmps44;go_wp2_with fail
 refine (show Calls Tryz.prog 52 #[.int .i64 k,u a,u n,.bool false] w _ from HS.out).mono ?_;rintro e w' ⟨rfl,rfl⟩;go_wp2_with fail
 go_ret;exact ⟨rfl,rfl⟩
theorem add_w(x y:BitVec 32):((x.toNat:Int)+(y.toNat:Int)) % 4294967296=((x+y).toNat:Int):=by
 rw [BitVec.toNat_add];omega
theorem sub_w(x y:BitVec 32):((x.toNat:Int) - (y.toNat:Int)) % 4294967296=((x - y).toNat:Int):=by
 have hx:=x.isLt;have hy:=y.isLt;rw [BitVec.toNat_sub];omega
theorem md_cases{k:Int}(h:3≤k∧k < 12):k = 3∨k = 4∨k = 5∨k = 6∨k = 7∨k = 8∨k = 9∨k = 10∨k = 11:=by omega
theorem made(w:World)(g:Gt)(hk:3≤g.k∧g.k < 12)(x y:BitVec 32):Calls Tryz.prog 36 #[gA g,u x,u y] w fun e w'=>e = .returned (u (mdW g.k x y g.n))∧Below w.heap.size w w':=by
 obtain ⟨w1,hw1,hb1,hX1,hs1⟩:=g_box w (gB g);obtain ⟨⟨e0,e1,e2,e3,e4⟩,z0,z1,z2,z3,z4⟩:=Blk.c5 hX1;have hgl:=hX1.lt;have HB:=Hi hb1;have HW:=Hi hw1;obtain ⟨k,a,b,n,s⟩:=g;dsimp only at *;have hx:=bd x;have hy:=bd y;have ha:=add_w x y;have hs:=sub_w x y;have h1:=b_and x y;have h2:=b_or x y;have h3:=b_xor x y;have hun:=un_not x;have H0:=Hi (shifted w1 0 x n);have H1:=Hi (shifted w1 1 x n);have HR:=Hi (rot x n.toNat n.isLt w1);clear hw1 hb1 hX1 hs1;rcases md_cases hk with rfl | rfl | rfl | rfl | rfl | rfl | rfl | rfl | rfl
 ·rw [show mdW 3 x y n=x &&& y from rfl];go_enter Tryz.func36,Tryz.ntmps36;go_upto_region 1 with fail
  rw [HW.out];go_wp2_with fail
  go_ret;refine ⟨?_,HB.out⟩;show Ending.returned (.int .u32 (((x.toNat &&& y.toNat:Nat):Int)))=_;rw [←BitVec.toNat_and]
 ·rw [show mdW 4 x y n=x ^^^ y from rfl];go_enter Tryz.func36,Tryz.ntmps36;go_upto_region 1 with fail
  rw [HW.out];go_wp2_with fail
  go_ret;refine ⟨?_,HB.out⟩;show Ending.returned (.int .u32 (((x.toNat ^^^ y.toNat:Nat):Int)))=_;rw [←BitVec.toNat_xor]
 ·rw [show mdW 5 x y n = ~~~x from rfl];go_enter Tryz.func36,Tryz.ntmps36;go_upto_region 1 with fail
  rw [HW.out];go_wp2_with fail
  go_ret;refine ⟨?_,HB.out⟩;show Ending.returned (.int .u32 (((4294967295 - x.toNat:Nat):Int)))=_;rw [show 4294967295 - x.toNat=(~~~x).toNat from (BitVec.toNat_not (x:=x)).symm]
 ·rw [show mdW 6 x y n=shV 0 x n.toNat from rfl];go_enter Tryz.func36,Tryz.ntmps36;go_upto_region 1 with fail
  rw [HW.out];go_wp2_with fail
  refine (show Calls Tryz.prog 44 #[.int .i64 0,u x,u n] w1 _ from H0.out).mono ?_;rintro e w' ⟨rfl,rfl⟩;go_wp2_with fail
  go_ret;exact ⟨rfl,HB.out⟩
 ·rw [show mdW 7 x y n=shV 1 x n.toNat from rfl];go_enter Tryz.func36,Tryz.ntmps36;go_upto_region 1 with fail
  rw [HW.out];go_wp2_with fail
  refine (show Calls Tryz.prog 44 #[.int .i64 1,u x,u n] w1 _ from H1.out).mono ?_;rintro e w' ⟨rfl,rfl⟩;go_wp2_with fail
  go_ret;exact ⟨rfl,HB.out⟩
 ·rw [show mdW 8 x y n=x.rotateLeft n.toNat from rfl];go_enter Tryz.func36,Tryz.ntmps36;go_upto_region 1 with fail
  rw [HW.out];go_wp2_with fail
  refine (show Calls Tryz.prog 45 #[u x,u n] w1 _ from HR.out).mono ?_;rintro e w' ⟨rfl,rfl⟩;go_wp2_with fail
  go_ret;exact ⟨rfl,HB.out⟩
 ·rw [show mdW 9 x y n=x ||| y from rfl];go_enter Tryz.func36,Tryz.ntmps36;go_upto_region 1 with fail
  rw [HW.out];go_wp2_with fail
  go_ret;refine ⟨?_,HB.out⟩;show Ending.returned (.int .u32 (((x.toNat ||| y.toNat:Nat):Int)))=_;rw [←BitVec.toNat_or]
 ·rw [show mdW 10 x y n=x+y from rfl];go_enter Tryz.func36,Tryz.ntmps36;go_upto_region 1 with fail
  rw [HW.out];go_wp2_with fail
  go_ret;refine ⟨?_,HB.out⟩;show Ending.returned (.int .u32 (((x.toNat:Int)+(y.toNat:Int)) % 4294967296))=_;rw [ha]
 ·rw [show mdW 11 x y n=x - y from rfl];go_enter Tryz.func36,Tryz.ntmps36;go_upto_region 1 with fail
  rw [HW.out];go_wp2_with fail
  go_ret;refine ⟨?_,HB.out⟩;show Ending.returned (.int .u32 (((x.toNat:Int) - (y.toNat:Int)) % 4294967296))=_;rw [hs]
end Go.Proofs.YtdhoemlomojfaaaGreatDoor.Ci
namespace Go.Proofs.YtdhoemlomojfaaaGreatDoor.HT
open Go
section
variable {P : Program} {ops : Array Oper} {Q : Exit → Act → World → Prop} {md : Region.Mode} {Z S : World → Prop} {st : List Nat}
def none_(st:List Nat)(listed:Array Bool):Prop:=∀ s∈st,listed.getD s true=false
def anyT(P:Program)(md:Region.Mode)(ops:Array Oper)(Q:Exit→Act→World→Prop)(Z S:World→Prop)(st:List Nat):Nat→Array Bool→Act→World→Prop
 | 0,listed,a,w=>Region.ready md ops listed=[]∧Q .normal a w
 | f+1,listed,a,w=>(Region.ready md ops listed=[]→Q .normal a w) ∧
  ∀ i∈Region.ready md ops listed,wpOp P ops Q i (fun a' w'=>(Z w'∧(none_ st (listed.setIfInBounds i true)→S w'))∧anyT P md ops Q Z S st f (listed.setIfInBounds i true) a' w') a w
theorem any_of:∀ (f:Nat) (listed:Array Bool) (a:Act) (w:World),anyT P md ops Q Z S st f listed a w→wpAny P md ops Q f listed a w
 | 0,_,_,_,h=>h
 | f+1,_,_,_,h=>⟨h.1,fun i hi=>wpOp_mono (fun a' w' h'=>any_of f _ a' w' h'.2) (h.2 i hi)⟩
def waitB(md:Region.Mode)(ops:Array Oper)(st:List Nat)(i:Nat):Bool:=st.all fun s=>((ops[s]?).map (·.after.any fun e=>Region.binds md e && e.on==i)).getD false
theorem wait_no{i s:Nat}(hw:waitB md ops st i=true)(hs:s∈st){listed:Array Bool}(hi:listed.getD i true=false):s ∉ Region.ready md ops listed:=fun hr=>by
 have h1:=List.all_eq_true.1 hw s hs;obtain ⟨_,o,ho,hall⟩:=mem_ready.1 hr;rw [ho] at h1;simp only [Option.map_some,Option.getD_some] at h1;obtain ⟨e,he,hb⟩:=Array.any_eq_true'.1 h1;simp only [Bool.and_eq_true,beq_iff_eq] at hb;have h2:=hall e he hb.1;rw [hb.2] at h2;rcases Nat.lt_or_ge i listed.size with h' | h'
 ·simp [h'] at h2 hi;rw [hi] at h2;cases h2
 ·simp [Array.getElem?_eq_none h'] at h2
theorem none_set{j:Nat}{listed:Array Bool}(h:none_ st listed)(hj:j ∉ st):none_ st (listed.setIfInBounds j true):=fun s hs=>by
 have h1:=h s hs;have:s≠j:=fun e=>hj (e ▸ hs)
 rw [Array.getD_eq_getD_getElem?] at h1 ⊢;rw [Array.getElem?_setIfInBounds_ne (Ne.symm this)];exact h1
theorem first{i:Nat}{oi:Oper}{v:Value}(hi:ops[i]?=some oi)(hsel:∀ (j:Nat) (o:Oper) cs b,ops[j]?=some o→o.op≠.select cs b)
  (hQ:∀ c a w,Q (.panic c) (a.put oi.dst v) w→Q (.panic c) a w) (hw:waitB md ops st i=true) (hist:i ∉ st) :
  ∀ (f:Nat) (listed:Array Bool) (a:Act) (w:World),
   (∀ j oj,ops[j]?=some oj→j≠i→listed.getD j true=false→(∀ e∈oj.after,Region.binds md e=true→e.on≠i)→oi.apart ops oj=true) →
   i∈Region.ready md ops listed→none_ st listed→YieldsIf P ops S oi v a→Z w→S w →
   anyT P md ops Q Z S st f (listed.setIfInBounds i true) (a.put oi.dst v) w→anyT P md ops Q Z S st (f+1) listed a w:=by
 intro f
 induction f with
 | zero=>
  intro listed a w _ hr _ hy hZ hS H;refine ⟨fun h=>(by rw [h] at hr;cases hr),fun j hj=>?_⟩;by_cases hji:j=i
  ·subst hji;exact hy.wpOp hi hS ⟨⟨hZ,fun _=>hS⟩,H⟩
  ·have:=ready_mono hj hji;rw [H.1] at this;cases this
 | succ f ih=>
  intro listed a w hfree hr hn hy hZ hS H;refine ⟨fun h=>(by rw [h] at hr;cases hr),fun j hj=>?_⟩;by_cases hji:j=i
  ·subst hji;exact hy.wpOp hi hS ⟨⟨hZ,fun _=>hS⟩,H⟩
  ·have h1:=H.2 j (ready_mono hj hji);obtain ⟨hjun,oj,hoj,hall⟩:=mem_ready.1 hj;have hiun:=(mem_ready.1 hr).1;have hnot:∀ e∈oj.after,Region.binds md e=true→e.on≠i:=fun e he hb heq=>by
    have h1:=hall e he hb;rw [heq] at h1;rcases Nat.lt_or_ge i listed.size with h' | h'
    ·simp [h'] at hiun h1;rw [hiun] at h1;cases h1
    ·simp [Array.getElem?_eq_none h'] at h1
   have hjst:j ∉ st:=fun h=>wait_no hw h hiun hj
   have h2:=wpOp_putIf hoj (hfree j oj hoj hji hjun hnot) (fun cs b=>hsel i oi cs b hi) (fun cs b=>hsel j oj cs b hoj) hQ hy h1;have hnj:=none_set hn hjst;refine wpOp_mono (fun a' w' h3=>?_) h2;have hS':S w':=h3.2.1.2 (none_set (none_set hn hist) hjst);refine ⟨⟨h3.2.1.1,fun _=>hS'⟩,ih (listed.setIfInBounds j true) a' w' (fun k ok hk hki hun hno=>hfree k ok hk hki ?_ hno) (ready_mono hr (Ne.symm hji)) hnj h3.1 h3.2.1.1 hS' ?_⟩
   ·by_cases hjk:j=k
    ·subst hjk;exact hjun
    ·rw [Array.getD_eq_getD_getElem?,Array.getElem?_setIfInBounds_ne hjk,←Array.getD_eq_getD_getElem?] at hun;exact hun
   ·rw [Array.setIfInBounds_comm _ _ hji];exact h3.2.2
theorem firstP{i:Nat}{oi:Oper}{v:Value}(hi:ops[i]?=some oi)(hsel:∀ (j:Nat) (o:Oper) cs b,ops[j]?=some o→o.op≠.select cs b)
  (hQ:∀ c a w,Q (.panic c) (a.put oi.dst v) w→Q (.panic c) a w) (hist:i ∉ st) :
  ∀ (f:Nat) (listed:Array Bool) (a:Act) (w:World),
   (∀ j oj,ops[j]?=some oj→j≠i→listed.getD j true=false→(∀ e∈oj.after,Region.binds md e=true→e.on≠i)→oi.apart ops oj=true) →
   i∈Region.ready md ops listed→Z w→(none_ st listed→S w)→YieldsIf P ops Z oi v a →
   anyT P md ops Q Z S st f (listed.setIfInBounds i true) (a.put oi.dst v) w→anyT P md ops Q Z S st (f+1) listed a w:=by
 intro f
 induction f with
 | zero=>
  intro listed a w _ hr hZ hS hy H;refine ⟨fun h=>(by rw [h] at hr;cases hr),fun j hj=>?_⟩;by_cases hji:j=i
  ·subst hji;refine hy.wpOp hi hZ ⟨⟨hZ,fun hx=>hS fun s hs=>?_⟩,H⟩;have:=hx s hs;rw [Array.getD_eq_getD_getElem?,Array.getElem?_setIfInBounds_ne (by rintro rfl;exact hist hs),←Array.getD_eq_getD_getElem?] at this;exact this
  ·have:=ready_mono hj hji;rw [H.1] at this;cases this
 | succ f ih=>
  intro listed a w hfree hr hZ hS hy H;refine ⟨fun h=>(by rw [h] at hr;cases hr),fun j hj=>?_⟩;by_cases hji:j=i
  ·subst hji;refine hy.wpOp hi hZ ⟨⟨hZ,fun hx=>hS fun s hs=>?_⟩,H⟩;have:=hx s hs;rw [Array.getD_eq_getD_getElem?,Array.getElem?_setIfInBounds_ne (by rintro rfl;exact hist hs),←Array.getD_eq_getD_getElem?] at this;exact this
  ·have h1:=H.2 j (ready_mono hj hji);obtain ⟨hjun,oj,hoj,hall⟩:=mem_ready.1 hj;have hiun:=(mem_ready.1 hr).1;have hnot:∀ e∈oj.after,Region.binds md e=true→e.on≠i:=fun e he hb heq=>by
    have h1:=hall e he hb;rw [heq] at h1;rcases Nat.lt_or_ge i listed.size with h' | h'
    ·simp [h'] at hiun h1;rw [hiun] at h1;cases h1
    ·simp [Array.getElem?_eq_none h'] at h1
   have h2:=wpOp_putIf hoj (hfree j oj hoj hji hjun hnot) (fun cs b=>hsel i oi cs b hi) (fun cs b=>hsel j oj cs b hoj) hQ hy h1;refine wpOp_mono (fun a' w' h3=>?_) h2;have hS':none_ st (listed.setIfInBounds j true)→S w':=fun hx=>h3.2.1.2 (by rw [Array.setIfInBounds_comm _ _ (Ne.symm hji)];exact none_set hx hist)
   refine ⟨⟨h3.2.1.1,hS'⟩,ih (listed.setIfInBounds j true) a' w' (fun k ok hk hki hun hno=>hfree k ok hk hki ?_ hno) (ready_mono hr (Ne.symm hji)) h3.2.1.1 hS' h3.1 ?_⟩
   ·by_cases hjk:j=k
    ·subst hjk;exact hjun
    ·rw [Array.getD_eq_getD_getElem?,Array.getElem?_setIfInBounds_ne hjk,←Array.getD_eq_getD_getElem?] at hun;exact hun
   ·rw [Array.setIfInBounds_comm _ _ hji];exact h3.2.2
def noneB(st:List Nat)(listed:Array Bool):Bool:=st.all fun s=>!listed.getD s true
theorem none_of{listed:Array Bool}(h:noneB st listed=true):none_ st listed:=fun s hs=>by simpa using List.all_eq_true.1 h s hs
theorem take{i:Nat}{oi:Oper}{v:Value}{f:Nat}{listed:Array Bool}{a:Act}{w:World}(hi:ops[i]?=some oi)
  (hs:Region.noSelect ops=true) (hf:Region.free md ops listed i=true) (hr:(Region.ready md ops listed).contains i=true) (hw:waitB md ops st i=true) (hn:noneB st listed=true) (hist:st.contains i=false)
  (hQ:∀ c a w,Q (.panic c) (a.put oi.dst v) w→Q (.panic c) a w) (hy:YieldsIf P ops S oi v a) (hZ:Z w) (hS:S w)
  (h:anyT P md ops Q Z S st f (listed.setIfInBounds i true) (a.put oi.dst v) w):anyT P md ops Q Z S st (f+1) listed a w:=
 first hi (Region.noSelect_spec hs) hQ hw (by simpa using hist) f listed a w (Region.free_spec hi hf) (by simpa using hr) (none_of hn) hy hZ hS h
theorem takeP{i:Nat}{oi:Oper}{v:Value}{f:Nat}{listed:Array Bool}{a:Act}{w:World}(hi:ops[i]?=some oi)
  (hs:Region.noSelect ops=true) (hf:Region.free md ops listed i=true) (hr:(Region.ready md ops listed).contains i=true) (hist:st.contains i=false)
  (hQ:∀ c a w,Q (.panic c) (a.put oi.dst v) w→Q (.panic c) a w) (hy:YieldsIf P ops Z oi v a) (hZ:Z w) (hS:none_ st listed→S w)
  (h:anyT P md ops Q Z S st f (listed.setIfInBounds i true) (a.put oi.dst v) w):anyT P md ops Q Z S st (f+1) listed a w:=
 firstP hi (Region.noSelect_spec hs) hQ (by simpa using hist) f listed a w (Region.free_spec hi hf) (by simpa using hr) hZ hS hy h
theorem takeS{i:Nat}{oi:Oper}{v:Value}{f:Nat}{listed:Array Bool}{a:Act}{w:World}(hi:ops[i]?=some oi)
  (hs:Region.noSelect ops=true) (hf:Region.free md ops listed i=true) (hr:(Region.ready md ops listed).contains i=true) (hist:st.contains i=false) (hn:noneB st listed=false)
  (hQ:∀ c a w,Q (.panic c) (a.put oi.dst v) w→Q (.panic c) a w) (hy:YieldsIf P ops Z oi v a) (hZ:Z w)
  (h:anyT P md ops Q Z S st f (listed.setIfInBounds i true) (a.put oi.dst v) w):anyT P md ops Q Z S st (f+1) listed a w:=
 takeP hi hs hf hr hist hQ hy hZ (fun hx=>by
  have:noneB st listed=true:=List.all_eq_true.2 fun s hs=>by simpa using hx s hs
  rw [this] at hn;cases hn) h
theorem one{i:Nat}{o:Oper}{f:Nat}{listed:Array Bool}{a:Act}{w:World}(hr:Region.ready md ops listed=[i])(ho:ops[i]?=some o)
  (h:∀ K:Act→World→Prop,Shut (∀ a' w',Z w'→S w'→anyT P md ops Q Z S st f (listed.setIfInBounds i true) a' w'→K a' w')→if Region.wanted o (yielded ops a.tmps)=true then Oper.wp P o a w K Q else K (a.put o.dst undef) w):anyT P md ops Q Z S st (f+1) listed a w:=
 ⟨fun h0=>by rw [hr] at h0;(cases h0),fun j hj=>by
  rw [hr] at hj;obtain rfl:=List.mem_singleton.1 hj;exact wpOp_step ho fun K hK=>h K fun a' w' hZ hS hW=>hK a' w' ⟨⟨hZ,fun _=>hS⟩,hW⟩⟩
theorem oneS{i:Nat}{o:Oper}{f:Nat}{listed:Array Bool}{a:Act}{w:World}(hr:Region.ready md ops listed=[i])(hist:noneB st (listed.setIfInBounds i true)=false)(ho:ops[i]?=some o)
  (h:∀ K:Act→World→Prop,Shut (∀ a' w',Z w'→anyT P md ops Q Z S st f (listed.setIfInBounds i true) a' w'→K a' w')→if Region.wanted o (yielded ops a.tmps)=true then Oper.wp P o a w K Q else K (a.put o.dst undef) w):anyT P md ops Q Z S st (f+1) listed a w:=
 ⟨fun h0=>by rw [hr] at h0;(cases h0),fun j hj=>by
  rw [hr] at hj;obtain rfl:=List.mem_singleton.1 hj;refine wpOp_step ho fun K hK=>h K fun a' w' hZ hW=>hK a' w' ⟨⟨hZ,fun hx=>?_⟩,hW⟩
  have:noneB st (listed.setIfInBounds j true)=true:=List.all_eq_true.2 fun s hs=>by simpa using hx s hs
  rw [this] at hist;cases hist⟩
theorem done{f:Nat}{listed:Array Bool}{a:Act}{w:World}(hr:Region.ready md ops listed=[])(h:Q .normal a w):anyT P md ops Q Z S st f listed a w:=by
 cases f with
 | zero=>exact ⟨hr,h⟩
 | succ f=>exact ⟨fun _=>h,fun i hi=>by rw [hr] at hi;cases hi⟩
theorem wp_region{id:Nat}{a:Act}{w:World}(hm:P.follows .mixedOrders=true)(h:anyT P .any ops Q Z S st ops.size (Array.replicate ops.size false) a w.drew):(Code.region id ops true).wp P Q a w:=
 wp_region_any hm (any_of _ _ _ _ h)
end
section
variable {P : Program} {ops : Array Oper} {Q : Exit → Act → World → Prop} {md : Region.Mode} {Z S : World → Prop} {st : List Nat}
theorem tr {p : Prop} : p → True := fun _ => trivial
theorem pS : (∀ (a : Act) (d : Nat) (v : Value), a.put (some d) v = { a with tmps := a.tmps.setIfInBounds d v }) ∧ (∀ (l : List Value) (i : Nat) (v : Value), l.toArray.setIfInBounds i v = (l.set i v).toArray) ∧ (∀ (l : List Oper) (i : Nat) (h : i < l.toArray.size), l.toArray[i] = l[i]'(by simpa using h)) ∧
    (∀ (a b : Value) (l : List Value), (a :: l).set 0 b = b :: l) ∧ (∀ (a b : Value) (l : List Value) (n : Nat), (a :: l).set (n + 1) b = a :: l.set n b) ∧
    (∀ (a : Oper) (l : List Oper) (h : 0 < (a :: l).length), (a :: l)[0] = a) ∧ (∀ (a : Oper) (l : List Oper) (n : Nat) (h : n + 1 < (a :: l).length), (a :: l)[n + 1] = l[n]'(Nat.lt_of_succ_lt_succ h)) ∧ (∀ (a : Act) (v : Value), a.put none v = a) :=
  ⟨fun _ _ _ => rfl, fun _ _ _ => by simp, fun _ _ _ => rfl, fun _ _ _ => rfl, fun _ _ _ _ => rfl, fun _ _ _ => rfl, fun _ _ _ _ => rfl, fun _ _ => rfl⟩
theorem tk (i : Nat) {oi : Oper} {v : Value} {f : Nat} {listed : Array Bool} {a a' : Act} {w : World} (hi : ops[i]? = some oi) (hv : ∀ w', Z w' → (execOp a.eval oi).run P w' = .ok (.value v) w') (hZ : Z w) (hS : none_ st listed → S w)
    (h : anyT P md ops Q Z S st f (listed.setIfInBounds i true) a' w) (hs : Region.noSelect ops = true := by kernel_rfl) (hf : Region.free md ops listed i = true := by kernel_rfl) (hr : (Region.ready md ops listed).contains i = true := by kernel_rfl) (hist : st.contains i = false := by kernel_rfl)
    (hQ : ∀ c a w, Q (.panic c) (a.put oi.dst v) w → Q (.panic c) a w := by exact fun _ _ _ h => h) (hw : Region.wanted oi (yielded ops a.tmps) = true := by rfl) (ha : a.put oi.dst v = a' := by simp only [HT.pS] <;> rfl) : anyT P md ops Q Z S st (f + 1) listed a w :=
  takeP hi hs hf hr hist hQ (.inl ⟨hw, hv⟩) hZ hS (ha ▸ h)
theorem tm (i : Nat) {oi : Oper} {v : Value} {f : Nat} {listed : Array Bool} {a a' : Act} {w : World} (hi : ops[i]? = some oi) (hZ : Z w) (hS : none_ st listed → S w)
    (h : anyT P md ops Q Z S st f (listed.setIfInBounds i true) a' w) (hv : ∀ w', Z w' → (execOp a.eval oi).run P w' = .ok (.value v) w' := by (intro v hSw; clear hSw; go_simp; try with_reducible rfl)) (hs : Region.noSelect ops = true := by kernel_rfl) (hf : Region.free md ops listed i = true := by kernel_rfl) (hr : (Region.ready md ops listed).contains i = true := by kernel_rfl) (hist : st.contains i = false := by kernel_rfl)
    (hQ : ∀ c a w, Q (.panic c) (a.put oi.dst v) w → Q (.panic c) a w := by exact fun _ _ _ h => h) (hw : Region.wanted oi (yielded ops a.tmps) = true := by rfl) (ha : a.put oi.dst v = a' := by simp only [HT.pS] <;> rfl) : anyT P md ops Q Z S st (f + 1) listed a w :=
  takeP hi hs hf hr hist hQ (.inl ⟨hw, hv⟩) hZ hS (ha ▸ h)
theorem sk (i : Nat) {oi : Oper} {f : Nat} {listed : Array Bool} {a a' : Act} {w : World} (hi : ops[i]? = some oi) (hZ : Z w) (hS : none_ st listed → S w)
    (h : anyT P md ops Q Z S st f (listed.setIfInBounds i true) a' w) (hs : Region.noSelect ops = true := by kernel_rfl) (hf : Region.free md ops listed i = true := by kernel_rfl) (hr : (Region.ready md ops listed).contains i = true := by kernel_rfl) (hist : st.contains i = false := by kernel_rfl)
    (hQ : ∀ c a w, Q (.panic c) (a.put oi.dst undef) w → Q (.panic c) a w := by exact fun _ _ _ h => h) (hw : Region.wanted oi (yielded ops a.tmps) = false := by rfl) (ha : a.put oi.dst undef = a' := by simp only [HT.pS] <;> rfl) : anyT P md ops Q Z S st (f + 1) listed a w :=
  takeP hi hs hf hr hist hQ (.inr ⟨hw, rfl⟩) hZ hS (ha ▸ h)
theorem ts (i : Nat) {oi : Oper} {v : Value} {f : Nat} {listed : Array Bool} {a a' : Act} {w : World} (hi : ops[i]? = some oi) (hv : ∀ w', S w' → (execOp a.eval oi).run P w' = .ok (.value v) w') (hZ : Z w) (hS : S w)
    (h : anyT P md ops Q Z S st f (listed.setIfInBounds i true) a' w) (hs : Region.noSelect ops = true := by kernel_rfl) (hf : Region.free md ops listed i = true := by kernel_rfl) (hr : (Region.ready md ops listed).contains i = true := by kernel_rfl) (hwt : waitB md ops st i = true := by kernel_rfl) (hn : noneB st listed = true := by kernel_rfl) (hist : st.contains i = false := by kernel_rfl)
    (hQ : ∀ c a w, Q (.panic c) (a.put oi.dst v) w → Q (.panic c) a w := by exact fun _ _ _ h => h) (hw : Region.wanted oi (yielded ops a.tmps) = true := by rfl) (ha : a.put oi.dst v = a' := by simp only [HT.pS] <;> rfl) : anyT P md ops Q Z S st (f + 1) listed a w :=
  take hi hs hf hr hwt hn hist hQ (.inl ⟨hw, hv⟩) hZ hS (ha ▸ h)
theorem tgm (i : Nat) {oi : Oper} {v : Value} {f : Nat} {listed : Array Bool} {a a' : Act} {w : World} (hi : ops[i]? = some oi) (hZ : Z w)
    (h : anyT P md ops Q Z S st f (listed.setIfInBounds i true) a' w) (hv : ∀ w', Z w' → (execOp a.eval oi).run P w' = .ok (.value v) w' := by (intro v hSw; clear hSw; go_simp; try with_reducible rfl)) (hs : Region.noSelect ops = true := by kernel_rfl) (hf : Region.free md ops listed i = true := by kernel_rfl) (hr : (Region.ready md ops listed).contains i = true := by kernel_rfl) (hist : st.contains i = false := by kernel_rfl) (hn : noneB st listed = false := by kernel_rfl)
    (hQ : ∀ c a w, Q (.panic c) (a.put oi.dst v) w → Q (.panic c) a w := by exact fun _ _ _ h => h) (hw : Region.wanted oi (yielded ops a.tmps) = true := by rfl) (ha : a.put oi.dst v = a' := by simp only [HT.pS] <;> rfl) : anyT P md ops Q Z S st (f + 1) listed a w :=
  takeS hi hs hf hr hist hn hQ (.inl ⟨hw, hv⟩) hZ (ha ▸ h)
end
end Go.Proofs.YtdhoemlomojfaaaGreatDoor.HT
