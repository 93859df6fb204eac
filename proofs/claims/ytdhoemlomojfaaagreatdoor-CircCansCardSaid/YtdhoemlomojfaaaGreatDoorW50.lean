/- DERIVED. Ref, CoSh, EvRw. By an AI agent. -/
import Derived.Test.YtdhoemlomojfaaaGreatDoorW01
import Derived.OwnWalk
import Derived.WalkSmall
import Derived.Laws.AppendOwn
import Derived.Test.YtdhoemlomojfaaaGreatDoorW02
import Derived.StillTactics
import Derived.Laws.Pointers
import Derived.Deep.RegionHeld3
import Derived.Deep.AppendLies
import Derived.WalkSpells
import Derived.Lib.Tables
import Derived.Lib.Walk
import Derived.Lib.ItoaWalk
set_option maxRecDepth 100000
set_option maxHeartbeats 1600000
set_option linter.unusedVariables false
namespace Go.Proofs.YtdhoemlomojfaaaGreatDoor.Ref
open Go.ChangeShapes Go.WideShapes Go.ChangeAt Go.RowKit WMath Word
def bitsTo(a:BitVec 32)(k:Nat):List Bool:=(List.range k).map a.getLsbD
theorem bitsTo_len(a:BitVec 32)(k:Nat):(bitsTo a k).length=k:=by simp [bitsTo]
theorem bitsTo_snoc(a:BitVec 32)(k:Nat):bitsTo a (k+1)=bitsTo a k ++ [a.getLsbD k]:=by
 unfold bitsTo;rw [List.range_succ,List.map_append];rfl
theorem bit_of(a:BitVec 32)(k n:Nat)(hn:n=a.toNat / 2 ^ k):((n:Int) % 2==1)=a.getLsbD k:=by
 rw [←BitVec.testBit_toNat,Nat.testBit_eq_decide_div_mod_eq,←hn,Bool.eq_iff_iff];simp;omega
def bvals(l:List Bool):List Value:=l.map Value.bool
theorem infoB:(Tryz.prog.info? 4).map (fun i=>(i.zero,i.size,i.bytes))=some (some (.bool false),1,1):=by kernel_rfl
theorem app_bool{ops:Array Oper}{rest:List Oper}{o:Oper}{a:Act}{Q:Exit→Act→World→Prop}{W0 w:World}(hgd:o.guard=none)(s x:Operand)
  (ho:o.op = .call { callee:=.builtin .append,args:=#[s,x],argTypes:=#[71,71] })
  (v:Value) (k:Nat) (xs:List Bool) (hs:a.eval s=v) {base:Nat} (hown:w.ownsRow base 4 1 v k (bvals xs)) (hb:Below base W0 w) (hB:base≤W0.heap.size) (b:Bool)
  (hx:a.eval x = .slice (some ⟨w.heap.size,0,none⟩) 1 1) (hk:k < 1000)
  (h:∀ v' w',w'.ownsRow base 4 1 v' (k+1) (bvals (xs ++ [b]))→Below base W0 w'→wpList Tryz.prog ops Q rest (a.put o.dst v') w') :
  wpList Tryz.prog ops Q (o :: rest) a (w.alloc (.cells #[.bool b] 4)):=by
 obtain ⟨i0,hi,hz0,hz1,hz2⟩:=info_parts infoB;have hbs:=hb.size;refine wpList_append_own _ hgd s x 71 ho base 4 i0 (.bool false) 1 1 Tryz.underlying71 hi hz0 hz1 hz2 rfl (by decide) v k (bvals xs) hs (hown.alloc _) ⟨w.heap.size,0,none⟩ 1 1 [.bool b] hx rfl ?_ ?_ (by unfold maxLen;omega) (by omega) (by simp;omega) ?_
 ·intro j u hj
  match j,hj with
  | 0,hj=>
   simp at hj;subst hj;show (w.alloc _).cell? ⟨w.heap.size,0+0,none⟩=_;rw [World.cell?_alloc_at _ _ _ _ rfl];rfl
  | j+1,hj=>simp at hj
 ·intro u hu;simp at hu;subst hu;rfl
 ·intro v' w' h1 h2 _;refine h v' w' (by simpa [bvals] using h1) ((hb.alloc (by omega) _).grown h2 (by simp;omega) (fun k hk=>(hown.lt k hk).1))
theorem bitsC(a:BitVec 32)(w:World) :
  Calls Tryz.prog 37 #[u a] w fun e w'=>∃ g cap,e = .returned (.slice (some ⟨g,0,none⟩) 32 cap)∧32≤cap∧cap≤maxLen∧w.heap.size≤g∧g < w'.heap.size∧(∀ j,j < 32→w'.cell? ⟨g,j,none⟩=some (.bool (a.getLsbD j)))∧Below w.heap.size w w':=by
 have h2:=bd a;go_enter Tryz.func37,Tryz.ntmps37
 go_wp2
 go_loopw [0,3,4] (fun va v vi wr=>∃ (k n:Nat),k≤32∧vi = .int .i64 k∧va = .int .u32 n∧Hid (n=a.toNat / 2 ^ k)∧wr.ownsRow w.heap.size 4 1 v k (bvals (bitsTo a k))∧Below w.heap.size w wr) (fun _ _ vi _=>32 - (intOf vi).toNat)
 case atStart=>exact ⟨0,a.toNat,by omega,rfl,rfl,Hi (by simp),World.ownsRow_lit w #[] 0 (Nat.le_refl _) (by decide) rfl,(Below.refl _ _).alloc (Nat.le_refl _) _⟩
 case round=>
  obtain ⟨k,n,hk,rfl,rfl,HN,hown,hb⟩:=hrel;have HB:=Hi hb;have HO:=Hi hown;clear hb hown h2;have hn:n < 4294967296:=by have:=HN.out;have:=Nat.div_le_self a.toNat (2 ^ k);omega
  by_cases hlt:k < 32
  ·go_wp2_with (at_builtin;refine app_bool rfl _ _ rfl _ k (bitsTo a k) rfl HO.out HB.out (Nat.le_refl _) ((n:Int) % 2==1) rfl (by omega) ?_;intro v' w' hown' hb')
   have hbit:=bit_of a k n HN.out;rw [hbit,←bitsTo_snoc] at hown'
   go_roundw
   case rel=>exact ⟨k+1,n / 2,by omega,by go_num,rfl,Hi (by rw [HN.out,Nat.pow_succ,Nat.div_div_eq_div_mul]),hown',hb'⟩
   case measure=>simp [intOf];omega
  ·go_wp2
   have:k = 32:=by omega
   subst this;have hown:=HO.out;go_ret;rcases hown.2 with ⟨_,h0⟩ | ⟨g,cap,cur,rfl,hg,hgg,hcap,hmx,_,_⟩
   ·omega
   ·have hc:=fun j (hj:j < 32)=>World.ownsRow.cellAt hown j (by omega)
    have hg2:g < wr.heap.size:=by have:=(hown.lt g rfl).2;exact this
    refine ⟨g,cap,rfl,hcap,hmx,hg,hg2,fun j hj=>?_,HB.out⟩;rw [hc j hj];simp [bvals,bitsTo,hj]
theorem half_lt(x:BitVec 32)(m n:Nat)(hn:n=x.toNat / 2 ^ (m+1)):n < 2147483648:=by
 have h1:=x.isLt;rw [Nat.pow_succ,Nat.mul_comm,←Nat.div_div_eq_div_mul] at hn;have h2:=Nat.div_le_self (x.toNat / 2) (2 ^ m);omega
theorem word_step(x:BitVec 32)(m n:Nat)(b:Bool)(hn:n=x.toNat / 2 ^ (m+1))(hb:x.getLsbD m=b):n * 2+b.toNat=x.toNat / 2 ^ m:=by
 rw [Nat.pow_succ,←Nat.div_div_eq_div_mul] at hn;rw [←BitVec.testBit_toNat,Nat.testBit_eq_decide_div_mod_eq] at hb;subst hb;generalize x.toNat / 2 ^ m=q at *;by_cases h:q % 2 = 1 <;> simp [h] <;> omega
theorem wordC(x:BitVec 32)(g cap:Nat)(w:World)(hcap:32≤cap)(hc:∀ j,j < 32→w.cell? ⟨g,j,none⟩=some (.bool (x.getLsbD j))) :
  Calls Tryz.prog 38 #[.slice (some ⟨g,0,none⟩) 32 cap] w fun e w'=>e = .returned (u x)∧w=w':=by
 have HC:=Hi hc;clear hc;go_enter Tryz.func38,Tryz.ntmps38
 go_wp2
 go_loop [3,4] (fun va vi=>∃ (k n:Nat),k≤32∧vi = .int .i64 ((k:Int) - 1)∧va = .int .u32 n∧Hid (n=x.toNat / 2 ^ k)) (fun _ vi=>(intOf vi+1).toNat)
 case atStart=>exact ⟨32,0,by omega,rfl,rfl,Hi (by have:=x.isLt;rw [Nat.div_eq_of_lt (by omega)])⟩
 case round=>
  obtain ⟨k,n,hk,rfl,rfl,HN⟩:=hrel;cases k with
  | zero=>
   go_wp2
   go_ret;have h:=HN.out;rw [Nat.pow_zero,Nat.div_one] at h;exact ⟨by rw [h];rfl,rfl⟩
  | succ m=>
   have hcell:=HC.out m (by omega);have hn:n < 2147483648:=half_lt x m n HN.out;cases hbit:x.getLsbD m
   all_goals
    rw [hbit] at hcell;have hst:=word_step x m n _ HN.out hbit;have HS:=Hi hst;have HBT:=Hi hbit;clear hst hbit
    go_wp2
    go_round
    case rel=>exact ⟨m,_,by omega,by go_num,rfl,Hi (by rw [←HS.out];rfl)⟩
    case measure=>simp [intOf]
end Go.Proofs.YtdhoemlomojfaaaGreatDoor.Ref
namespace Go.Proofs.YtdhoemlomojfaaaGreatDoor.Co
open Go.ChangeShapes Go.WideShapes Go.ChangeAt Go.RowKit WMath Word Ref Args
def nowA(f:Nat→Bool):Array Value:=((List.range 32).map fun q=>Value.bool (f q)).toArray
theorem nowA_get(f:Nat→Bool)(q:Nat)(hq:q < 32):(nowA f)[q]?=some (.bool (f q)):=by
 unfold nowA;simp [hq]
theorem nowA_set(f:Nat→Bool)(j:Nat)(v:Bool):(nowA f).setIfInBounds j (.bool v)=nowA fun q=>if q=j then v else f q:=by
 apply Array.ext_getElem?;intro i;rw [Array.getElem?_setIfInBounds];by_cases hi:i < 32
 ·rw [nowA_get _ _ hi,nowA_get _ _ hi];by_cases h:j=i
  ·subst h;simp [nowA,hi]
  ·simp [h,Ne.symm h]
 ·have e:∀ f:Nat→Bool,(nowA f)[i]?=none:=fun f=>by simp [nowA];omega
  rw [e,e];by_cases h:j=i
  ·subst h;simp [nowA,hi]
  ·simp [h]
theorem nowA_congr{f g:Nat→Bool}(h:∀ q,q < 32→f q=g q):nowA f=nowA g:=by
 unfold nowA
 congr 1
 exact List.map_congr_left fun q hq=>by rw [h q (List.mem_range.1 hq)]
structure Nw(wr:World)(g k:Nat)(x:BitVec 32)(j:Nat)(wx:World):Prop where
 blk:Blk wx wr.heap.size 4 (nowA fun q=>decide (q < j) && nbi k x q)
 old:∀ q,q < 32→wx.cell? ⟨g,q,none⟩=some (.bool (x.getLsbD q))
 ext:Below wr.heap.size wr wx
 lt:g < wr.heap.size
theorem Nw.stay{wr wx:World}{g k j:Nat}{x:BitVec 32}(h:Nw wr g k x j wx)(hj:nbi k x j=false):Nw wr g k x (j+1) wx:=by
 refine ⟨?_,h.old,h.ext,h.lt⟩;have:=h.blk
 rwa [nowA_congr (g:=fun q=>decide (q < j+1) && nbi k x q) fun q _=>?_] at this
 by_cases e:q=j
 ·subst e;simp [hj]
 ·congr 1;simp;omega
theorem Nw.next{wr wx:World}{g k j:Nat}{x:BitVec 32}(h:Nw wr g k x j wx)(b:Bool)(hb:nbi k x j=b):Nw wr g k x (j+1) (wx.setCell ⟨wr.heap.size,j,none⟩ (.bool b)):=by
 refine ⟨?_,fun q hq=>?_,h.ext.setCell (p:=⟨wr.heap.size,j,none⟩) (Nat.le_refl _) _,h.lt⟩
 ·have:=h.blk.set j (.bool b);rw [nowA_set] at this
  rwa [nowA_congr (g:=fun q=>decide (q < j+1) && nbi k x q) fun q _=>?_] at this
  by_cases e:q=j
  ·subst e;simp [hb]
  ·simp only [e,if_false];congr 1;simp;omega
 ·have hne:g≠wr.heap.size:=by have:=h.lt;omega
  rw [←h.old q hq];exact World.cell?_of_block (Below.heap_setCell wx _ _ g hne)
theorem Nw.fin{wr wx:World}{g k:Nat}{x y:BitVec 32}(h:Nw wr g k x 32 wx)(hk:k < 2)(hy:∀ j,j < 32→y.getLsbD j=nb k x j):∀ j,j < 32→wx.cell? ⟨wr.heap.size,j,none⟩=some (.bool (y.getLsbD j)):=fun j hj=>by
 rw [h.blk.cell,nowA_get _ _ hj,hy j hj];simp [nb,hj,show ¬ (j = 31∧k = 2) by omega,show ¬ (j = 31∧k = 3) by omega]
theorem mk32:∀ w:World,(Instr.makeSlice 71 (.int .i64 32) (.int .i64 32)).run Tryz.prog w = .ok (.slice (some ⟨w.heap.size,0,none⟩) 32 32) (w.alloc (.cells (nowA fun _=>false) 4)):=fun _=>by kernel_rfl
theorem Nw.start{wr:World}{g k:Nat}{x:BitVec 32}(hg:g < wr.heap.size)(hx:∀ q,q < 32→wr.cell? ⟨g,q,none⟩=some (.bool (x.getLsbD q))):Nw wr g k x 0 (wr.alloc (.cells (nowA fun _=>false) 4)):=by
 refine ⟨?_,fun q hq=>?_,(Below.refl _ _).alloc (Nat.le_refl _) _,hg⟩
 ·rw [nowA_congr (g:=fun _=>false) fun q _=>by simp];exact Blk.new wr _ _
 ·rw [←hx q hq];exact World.cell?_of_block (Below.heap_alloc wr _ g hg)
theorem Nw.cellG{wr wx:World}{g k j:Nat}{x:BitVec 32}(h:Nw wr g k x j wx)(q:Nat)(hq:q < 32):∃ b,wx.cell? ⟨wr.heap.size,q,none⟩=some (.bool b):=⟨_,by rw [h.blk.cell,nowA_get _ _ hq]⟩
def ShEnd(v:BitVec 32)(c:Bool)(w:World)(e:Ending)(w':World):Prop:=e = .returned (.tuple #[u v,.bool c])∧Below w.heap.size w w'
theorem rsh0(a:BitVec 32)(n:Nat)(hn:n < 4294967296)(c:Bool)(w:World) :
  Calls Tryz.prog 26 #[.int .i64 0,u a,.int .u32 n,.bool c] w (ShEnd (shV 0 a n) (shC 0 a n c) w):=by
 obtain ⟨e1,e2⟩:=sh_rby 0 (by decide) a n c;have e1':shV (0:Int) a (min (rby 0 n) 70)=shV (0:Int) a n:=e1;have e2':shC (0:Int) a (min (rby 0 n) 70) c=shC (0:Int) a n c:=e2;rw [←e1',←e2'];have hz:=shV_zero 0 (by decide) a;have hs0:shC 0 a 0 c=c:=by unfold shC;rw [if_neg (by omega),if_pos rfl]
 have hS:=sh_succ 0 (by decide) a;have hC:=shc_succ 0 (by decide) a;have hmk:=mk32;have HZ:=Hi hz;have HS0:=Hi hs0;have HS:=Hi hS;have HC:=Hi hC;clear e1 e2 e1' e2' hz hs0 hS hC;have hrb:rby 0 n=n:=by unfold rby;rw [if_neg (by omega)]
 rw [hrb];have HN:∀ i:Nat,i < min (n) 70↔i < 70∧i < n:=fun i=>by omega
 clear hrb;go_enter Tryz.func26,Tryz.ntmps26;go_wp2_with fail
 refine (bitsC a _).mono ?_;rintro e w1 ⟨g,cap,rfl,hcap,hmx,hg,hs,hc,hb⟩;have HC0:=Hi hc;have HB0:=Hi hb;clear hc hb;go_wp2_with fail
 go_loopw [3,10,11] (fun vc vb vi wr=>∃ (i g cap:Nat),i≤min (n) 70∧vi = .int .u32 i∧vc = .bool (shC 0 a i c)∧vb = .slice (some ⟨g,0,none⟩) 32 cap∧32≤cap∧cap≤maxLen∧g < wr.heap.size∧Hid (∀ j,j < 32→wr.cell? ⟨g,j,none⟩=some (.bool ((shV 0 a i).getLsbD j)))∧Hid (Below w.heap.size w wr)) (fun _ _ vi _=>70 - (intOf vi).toNat)
 case atStart=>exact ⟨0,g,cap,by omega,rfl,congrArg Value.bool HS0.out.symm,rfl,hcap,hmx,hs,Hi fun j hj=>by rw [show shV 0 a 0=a from HZ.out];exact HC0.out j hj,HB0⟩
 case round=>
  clear hcap hmx hs HC0 HB0 hg;obtain ⟨i,g,cap,hi,rfl,rfl,rfl,hcap,hmx,hg,HX,HB⟩:=hrel;by_cases hlt:i < min (n) 70
  ·have hS:=HS.out i;have hC:=HC.out i c;have hXX:=HX.out;have hi70:=(HN i).1 hlt;have hiN:(i:Int) < (n:Int):=by omega
   have hi7:(i:Int) < 70:=by omega
   have hx:∃ x:BitVec 32,shV 0 a i=x:=⟨_,rfl⟩;obtain ⟨x,hx⟩:=hx;rw [show shV (0:Nat) a i=x from hx] at hS hC;rw [hx] at hXX;have x0:=hXX 0 (by decide);have x31:=hXX 31 (by decide);have HS1:=Hi hS;have HC1:=Hi hC;have HX1:=Hi (Nw.start (k:=0) hg hXX);have HLT:=Hi hlt;clear hS hC hXX hx HX hi hi70 hlt HN;go_wp2_with fail
   generalize wr=wo at *
   go_loopw [13] (fun vj wr=>∃ j:Nat,j≤32∧vj = .int .i64 j∧Hid (Nw wo g 0 x j wr)) (fun vj _=>32 - (intOf vj).toNat)
   case atStart=>exact ⟨0,by omega,rfl,HX1⟩
   case round=>
    clear HX1 x0 x31;obtain ⟨j,hj,rfl,HW⟩:=hrel;by_cases hj32:j < 32
    ·obtain ⟨b0,hG⟩:=HW.out.cellG j hj32;have hF:=HW.out.blk.frozen j;rcases Nat.eq_zero_or_pos j with rfl | hpos
     ·go_wp2_with fail
      go_roundw
      case rel=>exact ⟨1,by omega,rfl,Hi (HW.out.stay (by simp [nbi]))⟩
      case measure=>simp [intOf]
     ·obtain ⟨m,hm⟩:∃ m,m+1=j:=⟨j - 1,by omega⟩;have hO:=HW.out.old m (by omega);have hnb:nbi 0 x j=x.getLsbD m:=by unfold nbi;subst hm;simp
      have hjm:((j:Int) - 1).toNat=m:=by omega
      have hj1:(1:Int)≤(j:Int):=by omega
      have hj2:(0:Int) < (j:Int):=by omega
      have hj3:(j:Int) < 32:=by omega
      have hj4:(j:Int) - 1 < 32:=by omega
      generalize x.getLsbD m=b at *;have HM:=Hi hm;have HNB:=Hi hnb;clear hm hnb hpos;go_wp2_with fail
      go_roundw
      case rel=>exact ⟨j+1,by omega,by go_num,Hi (HW.out.next _ HNB.out)⟩
      case measure=>simp [intOf];omega
    ·obtain rfl:j = 32:=by omega
     have x0:=HW.out.old 0 (by decide);have x31:=HW.out.old 31 (by decide);obtain ⟨b0,hG⟩:=HW.out.cellG 31 (by decide);have hF:=HW.out.blk.frozen 31;have hsz:=HW.out.ext.size;have hbits:=HW.out;have HBB:=Hi (HB.out.trans (HW.out.ext.mono HB.out.size));have HFIN:=Hi (HW.out.fin (by decide) (HS1.out));have hlt2:wo.heap.size < wr.heap.size:=HW.out.blk.lt;have hcc:shC 0 a (i+1) c=x.getLsbD 31:=HC1.out;clear hbits hsz;have HCC:=Hi hcc;clear hcc;go_wp2_with fail
     go_roundw
     case rel=>exact ⟨i+1,wo.heap.size,32,by have:=HLT.out;omega,by go_num,congrArg Value.bool HCC.out.symm,rfl,by decide,by decide,hlt2,HFIN,HBB⟩
     case measure=>simp [intOf];omega
  ·have hiN:min (n) 70=i:=by omega
   have hi2:(i = 70∧70 < n)∨(i≤70∧i=n):=by omega
   obtain ⟨y,hy⟩:∃ y,shV 0 a i=y:=⟨_,rfl⟩;obtain ⟨cc,hcc⟩:∃ cc,shC 0 a i c=cc:=⟨_,rfl⟩;rw [hcc];rw [hy] at HX;have HY:=Hi hy;have HCC:=Hi hcc;clear hy hcc;have hw:=wordC y g cap wr hcap HX.out;have HWW:=Hi hw;have HI:=Hi hiN;clear hw hiN hlt hi HN;rcases hi2 with ⟨h1,h2⟩ | ⟨h1,h2⟩
   ·have h3:decide ((i:Int) < 70)=false:=by simp;omega
    have h4:i < n:=by omega
    clear h1 h2;go_wp2_with fail
    refine HWW.out.mono ?_;rintro e w' ⟨rfl,rfl⟩;go_wp2_with fail
    go_ret2
    exact ⟨by rw [HI.out,HY.out,HCC.out];rfl,HB.out⟩
   ·have h3:decide (i < n)=false:=by simp;omega
    clear h2;go_wp2_with fail
    refine HWW.out.mono ?_;rintro e w' ⟨rfl,rfl⟩;go_wp2_with fail
    go_ret2
    exact ⟨by rw [HI.out,HY.out,HCC.out];rfl,HB.out⟩
theorem rsh1(a:BitVec 32)(n:Nat)(hn:n < 4294967296)(c:Bool)(w:World) :
  Calls Tryz.prog 26 #[.int .i64 1,u a,.int .u32 n,.bool c] w (ShEnd (shV 1 a n) (shC 1 a n c) w):=by
 obtain ⟨e1,e2⟩:=sh_rby 1 (by decide) a n c;have e1':shV (1:Int) a (min (rby 1 n) 70)=shV (1:Int) a n:=e1;have e2':shC (1:Int) a (min (rby 1 n) 70) c=shC (1:Int) a n c:=e2;rw [←e1',←e2'];have hz:=shV_zero 1 (by decide) a;have hs0:shC 1 a 0 c=c:=by unfold shC;rw [if_neg (by omega),if_pos rfl]
 have hS:=sh_succ 1 (by decide) a;have hC:=shc_succ 1 (by decide) a;have hmk:=mk32;have HZ:=Hi hz;have HS0:=Hi hs0;have HS:=Hi hS;have HC:=Hi hC;clear e1 e2 e1' e2' hz hs0 hS hC;have hrb:rby 1 n=n:=by unfold rby;rw [if_neg (by omega)]
 rw [hrb];have HN:∀ i:Nat,i < min (n) 70↔i < 70∧i < n:=fun i=>by omega
 clear hrb;go_enter Tryz.func26,Tryz.ntmps26;go_wp2_with fail
 refine (bitsC a _).mono ?_;rintro e w1 ⟨g,cap,rfl,hcap,hmx,hg,hs,hc,hb⟩;have HC0:=Hi hc;have HB0:=Hi hb;clear hc hb;go_wp2_with fail
 go_loopw [3,10,11] (fun vc vb vi wr=>∃ (i g cap:Nat),i≤min (n) 70∧vi = .int .u32 i∧vc = .bool (shC 1 a i c)∧vb = .slice (some ⟨g,0,none⟩) 32 cap∧32≤cap∧cap≤maxLen∧g < wr.heap.size∧Hid (∀ j,j < 32→wr.cell? ⟨g,j,none⟩=some (.bool ((shV 1 a i).getLsbD j)))∧Hid (Below w.heap.size w wr)) (fun _ _ vi _=>70 - (intOf vi).toNat)
 case atStart=>exact ⟨0,g,cap,by omega,rfl,congrArg Value.bool HS0.out.symm,rfl,hcap,hmx,hs,Hi fun j hj=>by rw [show shV 1 a 0=a from HZ.out];exact HC0.out j hj,HB0⟩
 case round=>
  clear hcap hmx hs HC0 HB0 hg;obtain ⟨i,g,cap,hi,rfl,rfl,rfl,hcap,hmx,hg,HX,HB⟩:=hrel;by_cases hlt:i < min (n) 70
  ·have hS:=HS.out i;have hC:=HC.out i c;have hXX:=HX.out;have hi70:=(HN i).1 hlt;have hiN:(i:Int) < (n:Int):=by omega
   have hi7:(i:Int) < 70:=by omega
   have hx:∃ x:BitVec 32,shV 1 a i=x:=⟨_,rfl⟩;obtain ⟨x,hx⟩:=hx;rw [show shV (1:Nat) a i=x from hx] at hS hC;rw [hx] at hXX;have x0:=hXX 0 (by decide);have x31:=hXX 31 (by decide);have HS1:=Hi hS;have HC1:=Hi hC;have HX1:=Hi (Nw.start (k:=1) hg hXX);have HLT:=Hi hlt;clear hS hC hXX hx HX hi hi70 hlt HN;go_wp2_with fail
   generalize wr=wo at *
   go_loopw [13] (fun vj wr=>∃ j:Nat,j≤32∧vj = .int .i64 j∧Hid (Nw wo g 1 x j wr)) (fun vj _=>32 - (intOf vj).toNat)
   case atStart=>exact ⟨0,by omega,rfl,HX1⟩
   case round=>
    clear HX1 x0 x31;obtain ⟨j,hj,rfl,HW⟩:=hrel;by_cases hj32:j < 32
    ·obtain ⟨b0,hG⟩:=HW.out.cellG j hj32;have hF:=HW.out.blk.frozen j;by_cases hj31:j < 31
     ·have hO:=HW.out.old (j+1) (by omega);have hnb:nbi 1 x j=x.getLsbD (j+1):=by unfold nbi;simp [hj31]
      have hj3:(j:Int) < 31:=by omega
      generalize x.getLsbD (j+1)=b at *;have HNB:=Hi hnb;clear hnb;go_wp2_with fail
      go_roundw
      case rel=>exact ⟨j+1,by omega,by go_num,Hi (HW.out.next _ HNB.out)⟩
      case measure=>simp [intOf];omega
     ·obtain rfl:j = 31:=by omega
      go_wp2_with fail
      go_roundw
      case rel=>exact ⟨32,by omega,rfl,Hi (HW.out.stay (by simp [nbi]))⟩
      case measure=>simp [intOf]
    ·obtain rfl:j = 32:=by omega
     have x0:=HW.out.old 0 (by decide);have x31:=HW.out.old 31 (by decide);obtain ⟨b0,hG⟩:=HW.out.cellG 31 (by decide);have hF:=HW.out.blk.frozen 31;have hsz:=HW.out.ext.size;have hbits:=HW.out;have HBB:=Hi (HB.out.trans (HW.out.ext.mono HB.out.size));have HFIN:=Hi (HW.out.fin (by decide) (HS1.out));have hlt2:wo.heap.size < wr.heap.size:=HW.out.blk.lt;have hcc:shC 1 a (i+1) c=x.getLsbD 0:=HC1.out;clear hbits hsz;have HCC:=Hi hcc;clear hcc;go_wp2_with fail
     go_roundw
     case rel=>exact ⟨i+1,wo.heap.size,32,by have:=HLT.out;omega,by go_num,congrArg Value.bool HCC.out.symm,rfl,by decide,by decide,hlt2,HFIN,HBB⟩
     case measure=>simp [intOf];omega
  ·have hiN:min (n) 70=i:=by omega
   have hi2:(i = 70∧70 < n)∨(i≤70∧i=n):=by omega
   obtain ⟨y,hy⟩:∃ y,shV 1 a i=y:=⟨_,rfl⟩;obtain ⟨cc,hcc⟩:∃ cc,shC 1 a i c=cc:=⟨_,rfl⟩;rw [hcc];rw [hy] at HX;have HY:=Hi hy;have HCC:=Hi hcc;clear hy hcc;have hw:=wordC y g cap wr hcap HX.out;have HWW:=Hi hw;have HI:=Hi hiN;clear hw hiN hlt hi HN;rcases hi2 with ⟨h1,h2⟩ | ⟨h1,h2⟩
   ·have h3:decide ((i:Int) < 70)=false:=by simp;omega
    have h4:i < n:=by omega
    clear h1 h2;go_wp2_with fail
    refine HWW.out.mono ?_;rintro e w' ⟨rfl,rfl⟩;go_wp2_with fail
    go_ret2
    exact ⟨by rw [HI.out,HY.out,HCC.out];rfl,HB.out⟩
   ·have h3:decide (i < n)=false:=by simp;omega
    clear h2;go_wp2_with fail
    refine HWW.out.mono ?_;rintro e w' ⟨rfl,rfl⟩;go_wp2_with fail
    go_ret2
    exact ⟨by rw [HI.out,HY.out,HCC.out];rfl,HB.out⟩
end Go.Proofs.YtdhoemlomojfaaaGreatDoor.Co
namespace Go.Proofs.YtdhoemlomojfaaaGreatDoor.Ref
open Go.ChangeShapes Go.WideShapes Go.ChangeAt Go.RowKit WMath Word Co
section
theorem bvals_one(l:List Bool):∀ x∈bvals l,x.oneCell'=true:=by
 intro x hx;obtain ⟨y,_,rfl⟩:=List.mem_map.1 hx;rfl
theorem rot1_zero(a:BitVec 32)(k:Nat):(a.rotateLeft (k+1)).getLsbD 0=(a.rotateLeft k).getLsbD 31:=by
 rw [rot_get _ _ _ (by decide),rot_get _ _ _ (by decide)]
 congr 1;omega
theorem rot1_succ(a:BitVec 32)(k j:Nat)(hj:j < 31):(a.rotateLeft (k+1)).getLsbD (j+1)=(a.rotateLeft k).getLsbD j:=by
 rw [rot_get _ _ _ (by omega),rot_get _ _ _ (by omega)]
 congr 1;omega
theorem rot_zero(a:BitVec 32)(j:Nat)(hj:j < 32):(a.rotateLeft 0).getLsbD j=a.getLsbD j:=by
 rw [rot_get _ _ _ hj]
 congr 1;omega
theorem rrotC(a:BitVec 32)(n:Nat)(hn:n < 4294967296)(w:World):Calls Tryz.prog 27 #[u a,.int .u32 n] w fun e w'=>e = .returned (u (a.rotateLeft n))∧Below w.heap.size w w':=by
 obtain ⟨i0,hi0,hz0,hz1,hz2⟩:=info_parts infoB;have hr:=rot_rot a (n % 32) 0 n (by omega);go_enter Tryz.func27,Tryz.ntmps27;go_wp2_with fail
 refine (bitsC a _).mono ?_;rintro e w2 ⟨g2,cap2,rfl,hcap2,hmx2,hg2,hs2,hc2,hb2⟩;have HC2:=Hi hc2;have HB2:=Hi hb2;have HR:=Hi hr;clear hc2 hb2 hr
 go_wp2
 go_loopw [5,6] (fun v vi wr=>∃ (k g cap:Nat),k≤n % 32∧vi = .int .u32 k∧v = .slice (some ⟨g,0,none⟩) 32 cap∧32≤cap∧g < wr.heap.size∧Hid (∀ j,j < 32→wr.cell? ⟨g,j,none⟩=some (.bool ((a.rotateLeft k).getLsbD j)))∧Below w.heap.size w wr) (fun _ vi _=>32 - (intOf vi).toNat)
 case atStart=>exact ⟨0,g2,cap2,by omega,rfl,rfl,hcap2,hs2,Hi (fun j hj=>by rw [rot_zero a j hj];exact HC2.out j hj),HB2.out⟩
 case round=>
  obtain ⟨k,g,cap,hk,rfl,rfl,hcap,hg,HC,hb⟩:=hrel;have HB:=Hi hb;have hsz:=hb.size;clear hb HC2 HB2;by_cases hlt:k < n % 32
  ·have q:=HC.out 31 (by decide);have z0:=rot1_zero a k;generalize (a.rotateLeft k).getLsbD 31=t at q z0;have Z0:=Hi z0;clear z0;have hn31:Hid (∀ (o:Obj) (j:Nat) (x:Value),(bvals (bitsTo (a.rotateLeft k) 31))[j]?=some x→(wr.alloc o).cell? ((⟨g,0,none⟩:Addr).add j)=some x):=Hi (fun o j x hx=>by
    have hj:j < 31:=by
     have:=(List.getElem?_eq_some_iff.1 hx).1;simpa [bvals,bitsTo_len] using this
    have e:(⟨g,0,none⟩:Addr).add j=⟨g,j,none⟩:=by unfold Addr.add;split <;> simp_all
    rw [e,World.cell?_alloc_lt wr o ⟨_,_,_⟩ hg,HC.out j (by omega),←hx];simp [bvals,bitsTo,hj])
   have ag:(Value.slice (some ⟨wr.heap.size,0,none⟩) 1 1).ownBlock≠some g:=by intro h;have h2:wr.heap.size=g:=Option.some.inj h;omega
   have c31:(31:Int)≤(cap:Int):=by omega
   have c32:(0:Int)≤(cap:Int):=by omega
   go_wp2_with fail
   go_region_held3 (fun w'=>w'.cell? ⟨g,31,none⟩=some (.bool t))
    (first
     | go_keep
     | (rw [hgrow.cell_far _ (by simp;omega) (Ne.symm ag)];assumption))
    ((refine step_append_lies _ (by rfl) _ _ _ (by rfl) wr.heap.size 4 i0 _ 1 1 Tryz.underlying71 hi0 hz0 hz1 hz2 rfl (by omega) (.slice (some ⟨wr.heap.size,0,none⟩) 1 1) 1 [.bool t] (by rfl) ((World.ownsRow_lit wr #[.bool t] 1 (Nat.le_refl _) (by decide) rfl).drew)
       ⟨g,0,none⟩ 31 cap (bvals (bitsTo (a.rotateLeft k) 31)) (by rfl) (by simp [bvals,bitsTo_len]) (by exact hn31.out _) (bvals_one _) (by omega) (by decide) (by omega) (by simp) (wr.heap.size+1) (by simp) ?_;intro gg cap' w1 hown1 hgrow hat hlt1))
   go_wp2_with fail
   go_roundw
   case rel=>
    have hbel:Below w.heap.size w w1:=((HB.out.alloc hsz _).drew.grown (row:=some wr.heap.size) hgrow (by simp;omega) (fun q hq=>by have:=Option.some.inj hq;omega));refine ⟨k+1,gg,cap',by omega,by go_num,rfl,?_,hlt1,Hi (fun j hj=>?_),hbel⟩
    ·rcases hown1.2 with ⟨h0,_⟩ | ⟨g9,cap9,cur,h9,_,_,h99,_,_,_⟩
     ·cases h0
     ·cases h9;exact h99
    ·rw [World.ownsRow.cellAt hown1 j (by omega)];cases j with
     | zero=>rw [Z0.out];rfl
     | succ j=>
      rw [rot1_succ a k j (by omega)];have hj':j < 31:=by omega
      simp [bvals,bitsTo,hj']
   case measure=>simp [intOf];omega
  ·go_wp2_with fail
   have:k=n % 32:=by omega
   have hR:=HR.out;have hw:=wordC (a.rotateLeft (n % 32)) g cap wr hcap (fun j hj=>by rw [←this];exact HC.out j hj);have e2:a.rotateLeft (n % 32)=a.rotateLeft n:=by
    apply BitVec.eq_of_getLsbD_eq;intro i hi;rw [rot_get _ _ _ hi,rot_get _ _ _ hi,Nat.mod_mod]
   rw [e2] at hw;clear e2 hR HR;refine hw.mono ?_;rintro e w' ⟨rfl,rfl⟩;go_wp2_with fail
   go_ret;exact ⟨rfl,HB.out⟩
end
end Go.Proofs.YtdhoemlomojfaaaGreatDoor.Ref
