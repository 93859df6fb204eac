/- DERIVED. CoShP, Ref, EvRw, CoSh, EvTw. By an AI agent. -/
import Derived.Test.YtcgibpdjfgjldaaGreatDoorT11
import Derived.WalkSmall
import Derived.Laws.AppendOwn
import Derived.StillTactics
import Derived.Laws.Pointers
import Derived.Deep.RegionHeld3
import Derived.WalkSpells
import Derived.Lib.Tables
import Derived.Lib.Walk
import Derived.Lib.ItoaWalk
set_option maxRecDepth 100000
set_option maxHeartbeats 4000000
set_option linter.unusedVariables false
set_option linter.unusedSimpArgs false
namespace Go.Proofs.YtcgibpdjfgjldaaGreatDoor
namespace Co
open WMath Word
def nbi(k:Nat)(x:BitVec 32)(j:Nat):Bool:=if k = 0 then decide (0 < j) && x.getLsbD (j - 1) else decide (j < 31) && x.getLsbD (j+1)
def nb(k:Nat)(x:BitVec 32)(j:Nat):Bool:=if j = 31/\k = 2 then x.getLsbD 31 else if j = 31/\k = 3 then x.getLsbD 0 else nbi k x j
def cry(k:Nat)(x:BitVec 32):Bool:=if k = 0 then x.getLsbD 31 else x.getLsbD 0
theorem q0W(a:BitVec 32)(n i:Nat)(hi:i < 32):(a.rotateLeft n).getLsbD i=a.getLsbD ((i+32 - n % 32) % 32):=by
 rw [BitVec.getLsbD_rotateLeft];by_cases h:i < n % 32
 ·simp only [h,decide_true,cond_true]
  congr 1;omega
 ·simp only [h,decide_false,cond_false,hi,decide_true,Bool.true_and]
  congr 1;omega
theorem q7i(a:BitVec 32)(x y z:Nat)(h:z % 32=(x+y) % 32):(a.rotateLeft x).rotateLeft y=a.rotateLeft z:=by
 apply BitVec.eq_of_getLsbD_eq;intro i hi;rw [q0W _ _ _ hi,q0W _ _ _ V0,q0W _ _ _ hi]
 congr 1;omega
theorem q7j(k:Int)(a:BitVec 32)(x y:Nat):shV k (shV k a x) y=shV k a (x+y):=by
 unfold shV;by_cases kk:k < 0\/3 < k
 ·simp [kk]
 simp only [kk,if_false];by_cases hx:x = 0
 ·subst hx;simp
 by_cases hy:y = 0
 ·subst hy;simp
 simp only [hx,hy,if_false,show ¬ (x+y = 0) from V0];by_cases h0:k = 0
 ·simp only [h0,if_true];rw [BitVec.shiftLeft_add]
 by_cases h1:k = 1
 ·simp only [h1,if_true];apply BitVec.eq_of_toNat_eq;simp [Nat.shiftRight_add]
 by_cases h2:k = 2
 ·subst h2;simp [BitVec.sshiftRight_add]
 simp only [h0,h1,h2,if_false];exact q7i _ _ _ _ V0
theorem sh_one(k:Nat)(hk:k < 4)(x:BitVec 32)(j:Nat)(hj:j < 32):(shV k x 1).getLsbD j=nb k x j:=by
 have hr:k = 0\/k = 1\/k = 2\/k = 3:=V0;rcases hr with rfl | rfl | rfl | rfl
 ·simp only [shV,nb,nbi];simp [BitVec.getLsbD_shiftLeft];by_cases h:j = 0
  ·subst h;simp
  ·simp [h,hj];intro;omega
 ·simp only [shV,nb,nbi];simp [BitVec.getLsbD_ushiftRight];by_cases h:j = 31
  ·subst h;simp
  ·rw [Nat.add_comm];simp [show j < 31 from V0]
 ·simp only [shV,nb,nbi];simp [BitVec.getLsbD_sshiftRight];by_cases h:j = 31
  ·subst h;simp [BitVec.msb_eq_getLsbD_last]
  ·rw [Nat.add_comm];simp [show j < 31 from V0,show j+1 < 32 from V0,h,show ¬ 32<=j from V0]
 ·show ((x.rotateLeft 31).getLsbD j)=_;rw [q0W _ _ _ hj];simp only [nb,nbi];by_cases h:j = 31
  ·subst h;simp
  ·rw [show (j+32 - 31 % 32) % 32=j+1 from V0];simp [h,show j < 31 from V0]
theorem q50(k:Nat)(hk:k < 4)(a:BitVec 32)(i j:Nat)(hj:j < 32):(shV k a (i+1)).getLsbD j=nb k (shV k a i) j:=by
 rw [<-q7j,sh_one k hk _ _ hj]
theorem bit0(x:BitVec 32):x.getLsbD 0=decide (x.toNat % 2 = 1):=by
 rw [<-BitVec.testBit_toNat,Nat.testBit_eq_decide_div_mod_eq];simp
theorem q5E(k:Nat)(hk:k < 4)(a:BitVec 32):shV k a 0=a:=by
 unfold shV;rw [if_neg V0,if_pos rfl]
theorem q2w(k:Nat)(hk:k < 4)(a:BitVec 32)(i:Nat)(c:Bool):shC k a (i+1) c=cry k (shV k a i):=by
 have hr:k = 0\/k = 1\/k = 2\/k = 3:=V0;rcases hr with rfl | rfl | rfl | rfl
 ·have e:shV (0:Nat) a i=a <<< i:=by
   exact V1D
  rw [e];show decide (a.toNat * 2 ^ (i+1) / 4294967296 % 2 = 1)=(a <<< i).getLsbD 31;have:=Nat.testBit_shiftLeft (x:=a.toNat) (i:=i+1) (j:=32);rw [Nat.testBit_eq_decide_div_mod_eq,Nat.shiftLeft_eq] at this;rw [show (4294967296:Nat) = 2 ^ 32 from rfl,this,BitVec.getLsbD_shiftLeft,<-BitVec.testBit_toNat];by_cases h:i<=31
  ·simp [show i+1<=32 from V0,show ¬ 31 < i from V0,show 32 - (i+1) = 31 - i from V0]
  ·simp [show ¬ (i+1<=32) from V0,show 31 < i from V0]
 ·have e:shV (1:Nat) a i=a >>> i:=by
   exact V1D
  rw [e];show decide (a.toNat * 2 / 2 ^ (i+1) % 2 = 1)=(a >>> i).getLsbD 0;rw [BitVec.getLsbD_ushiftRight,<-BitVec.testBit_toNat,Nat.testBit_eq_decide_div_mod_eq,Nat.add_zero,Nat.pow_succ,Nat.mul_div_mul_right _ _ V2];rfl
 ·have e:shV (2:Nat) a i=a.sshiftRight i:=by
   exact V1D
  rw [e];show decide (a.toInt * 2 / 2 ^ (i+1) % 2 = 1)=(a.sshiftRight i).getLsbD 0;rw [bit0];have h1:=q2E (a.sshiftRight i);have h2:(a.sshiftRight i).toInt=a.toInt / 2 ^ i:=by rw [BitVec.toInt_sshiftRight,Int.shiftRight_eq_div_pow];rfl
  have h3:a.toInt * 2 / 2 ^ (i+1)=a.toInt / 2 ^ i:=by
   rw [Int.pow_succ,Int.mul_ediv_mul_of_pos_left _ _ V2]
  rw [h3,<-h2];generalize (a.sshiftRight i).toInt=z at *;generalize (a.sshiftRight i).toNat=q at *;rw [decide_eq_decide];omega
 ·show (a.rotateLeft ((32 - (i+1) % 32) % 32)).msb=(shV (3:Nat) a i).getLsbD 0;have h:=q50 3 V2 a i 31 V2;have e:shV (3:Nat) a (i+1)=a.rotateLeft ((32 - (i+1) % 32) % 32):=by unfold shV;simp
  rw [e] at h;rw [BitVec.msb_eq_getLsbD_last];rw [show (32 - 1:Nat) = 31 from rfl,h];simp [nb]
theorem q5F(k:Nat)(hk:k < 3)(a:BitVec 32)(n:Nat)(hn:32<=n):shV k a n=shV k a 32:=by
 have hr:k = 0\/k = 1\/k = 2:=V0;rcases hr with rfl | rfl | rfl
 ·have e:∀ m:Nat,32<=m->shV (0:Nat) a m = 0#32:=fun m hm=>by
   unfold shV;simp only [show ¬ m = 0 from V0,if_false];simp;exact BitVec.shiftLeft_eq_zero hm
  rw [e n hn,e 32 V2]
 ·have e:∀ m:Nat,32<=m->shV (1:Nat) a m = 0#32:=fun m hm=>by
   unfold shV;simp only [show ¬ m = 0 from V0,if_false];simp;exact BitVec.ushiftRight_eq_zero hm
  rw [e n hn,e 32 V2]
 ·have e:∀ m:Nat,32<=m->∀ j,j < 32->(shV (2:Nat) a m).getLsbD j=a.msb:=fun m hm j hj=>by
   have e0:shV (2:Nat) a m=a.sshiftRight m:=by unfold shV;simp [show ¬ m = 0 from V0]
   rw [e0,BitVec.getLsbD_sshiftRight];simp [show ¬ 32<=j from V0];intro h;omega
  apply BitVec.eq_of_getLsbD_eq;intro j hj;rw [e n hn j hj,e 32 V2 j hj]
def rby(k n:Nat):Nat:=if k = 3/\64 < n then 32+n % 32 else n
theorem q8W(k:Nat)(hk:k < 4)(a:BitVec 32)(n:Nat)(c:Bool):shV k a (min (rby k n) 70)=shV k a n/\shC k a (min (rby k n) 70) c=shC k a n c:=by
 by_cases h3:k = 3
 ·subst h3;by_cases hn:64 < n
  ·have e:min (rby 3 n) 70 = 32+n % 32:=by unfold rby;rw [if_pos ⟨rfl,hn⟩];omega
   rw [e];have e2:(32 - (32+n % 32) % 32) % 32=(32 - n % 32) % 32:=V0;constructor
   ·unfold shV;simp [show ¬ n = 0 from V0,show ¬ (32+n % 32 = 0) from V0,e2]
   ·unfold shC;simp [show ¬ n = 0 from V0,show ¬ (32+n % 32 = 0) from V0,e2]
  ·have e:min (rby 3 n) 70=n:=by unfold rby;rw [if_neg V0];omega
   rw [e];exact ⟨rfl,rfl⟩
 ·have e:rby k n=n:=by unfold rby;rw [if_neg V0]
  rw [e];by_cases hn:n<=70
  ·rw [Nat.min_eq_left hn];exact ⟨rfl,rfl⟩
  ·rw [Nat.min_eq_right V0];refine ⟨by rw [q5F k V0 a 70 V2,q5F k V0 a n V0],?_⟩;obtain ⟨m,rfl⟩:∃ m,n=m+1:=⟨n - 1,V0⟩;rw [q2w k hk,q2w k hk,q5F k V0 a 69 V2,q5F k V0 a m V0]
end Co
namespace Ref
open Go.ChangeShapes Go.WideShapes Go.ChangeAt Go.RowKit WMath Word
def bitsTo(a:BitVec 32)(k:Nat):List Bool:=(List.range k).map a.getLsbD
theorem q38(a:BitVec 32)(k:Nat):(bitsTo a k).length=k:=by simp [bitsTo]
theorem q51(a:BitVec 32)(k:Nat):bitsTo a (k+1)=bitsTo a k ++ [a.getLsbD k]:=by
 unfold bitsTo;rw [List.range_succ,List.map_append];rfl
theorem bit_of(a:BitVec 32)(k n:Nat)(hn:n=a.toNat / 2 ^ k):((n:Int) % 2==1)=a.getLsbD k:=by
 rw [<-BitVec.testBit_toNat,Nat.testBit_eq_decide_div_mod_eq,<-hn,Bool.eq_iff_iff];simp;omega
def bvals(l:List Bool):List Value:=l.map Value.bool
theorem infoB:(Tryz.prog.info? 4).map (fun i=>(i.zero,i.size,i.bytes))=some (some (.bool false),1,1):=V1
theorem q8m{ops:Array Oper}{rest:List Oper}{o:Oper}{a:Act}{Q:Exit->Act->World->Prop}{W0 w:World}(hgd:o.guard=none)(s x:Operand)
  (ho:o.op = .call { callee:=.builtin .append,args:=#[s,x],argTypes:=#[169,169] })
  (v:Value) (k:Nat) (xs:List Bool) (hs:a.eval s=v) {base:Nat} (hown:w.ownsRow base 4 1 v k (bvals xs)) (hb:Below base W0 w) (hB:base<=W0.heap.size) (b:Bool)
  (hx:a.eval x = .slice (some ⟨w.heap.size,0,none⟩) 1 1) (hk:k < 1000)
  (h:∀ v' w',w'.ownsRow base 4 1 v' (k+1) (bvals (xs ++ [b]))->Below base W0 w'->wpList Tryz.prog ops Q rest (a.put o.dst v') w') :
  wpList Tryz.prog ops Q (o :: rest) a (w.alloc (.cells #[.bool b] 4)):=by
 obtain ⟨i0,hi,hz0,hz1,hz2⟩:=info_parts infoB;have hbs:=hb.size;refine wpList_append_own _ hgd s x 169 ho base 4 i0 (.bool false) 1 1 Tryz.underlying169 hi hz0 hz1 hz2 rfl V2 v k (bvals xs) hs (hown.alloc _) ⟨w.heap.size,0,none⟩ 1 1 [.bool b] hx rfl ?_ ?_ Va V0 V4 ?_
 ·intro j u hj
  match j,hj with
  | 0,hj=>
   simp at hj;subst hj;show (w.alloc _).cell? ⟨w.heap.size,0+0,none⟩=_;rw [World.cell?_alloc_at _ _ _ _ rfl];rfl
  | j+1,hj=>simp at hj
 ·intro u hu;simp at hu;subst hu;rfl
 ·intro v' w' h1 h2 _;refine h v' w' (by simpa [bvals] using h1) ((hb.alloc V0 _).grown h2 V4 (fun k hk=>(hown.lt k hk).1))
theorem bitsC(a:BitVec 32)(w:World) :
  Calls Tryz.prog 111 #[u a] w fun e w'=>∃ g cap,e = .returned (.slice (some ⟨g,0,none⟩) 32 cap)/\32<=cap/\cap<=maxLen/\w.heap.size<=g/\g < w'.heap.size/\(∀ j,j < 32->w'.cell? ⟨g,j,none⟩=some (.bool (a.getLsbD j)))/\Below w.heap.size w w':=by
 have h2:=bd a;go_enter Tryz.func111,Tryz.ntmps111
 go_wp2
 go_loopw [0,3,4] (fun va v vi wr=>∃ (k n:Nat),k<=32/\vi = .int .i64 k/\va = .int .u32 n/\Hid (n=a.toNat / 2 ^ k)/\wr.ownsRow w.heap.size 4 1 v k (bvals (bitsTo a k))/\Below w.heap.size w wr) (fun _ _ vi _=>32 - (intOf vi).toNat)
 case atStart=>exact ⟨0,a.toNat,V0,rfl,rfl,Hi V3,World.ownsRow_lit w #[] 0 (Nat.le_refl _) V2 rfl,(Below.refl _ _).alloc (Nat.le_refl _) _⟩
 case round=>
  obtain ⟨k,n,hk,rfl,rfl,HN,hown,hb⟩:=hrel;have HB:=Hi hb;have HO:=Hi hown;clear hb hown h2;have hn:n < 4294967296:=by have:=HN.out;have:=Nat.div_le_self a.toNat (2 ^ k);omega
  by_cases hlt:k < 32
  ·go_wp2_with (at_builtin;refine q8m rfl _ _ rfl _ k (bitsTo a k) rfl HO.out HB.out (Nat.le_refl _) ((n:Int) % 2==1) rfl V0 ?_;intro v' w' hown' hb')
   have hbit:=bit_of a k n HN.out;rw [hbit,<-q51] at hown'
   go_roundw
   case rel=>exact ⟨k+1,n / 2,V0,V7,rfl,Hi (by rw [HN.out,Nat.pow_succ,Nat.div_div_eq_div_mul]),hown',hb'⟩
   case measure=>simp [intOf];omega
  ·go_wp2
   have:k = 32:=V0;subst this;have hown:=HO.out;go_ret;rcases hown.2 with ⟨_,h0⟩ | ⟨g,cap,cur,rfl,hg,hgg,hcap,hmx,_,_⟩
   ·omega
   ·have hc:=fun j (hj:j < 32)=>World.ownsRow.cellAt hown j V0
    have hg2:g < wr.heap.size:=by have:=(hown.lt g rfl).2;exact this
    refine ⟨g,cap,rfl,hcap,hmx,hg,hg2,fun j hj=>?_,HB.out⟩;rw [hc j hj];simp [bvals,bitsTo,hj]
theorem half_lt(x:BitVec 32)(m n:Nat)(hn:n=x.toNat / 2 ^ (m+1)):n < 2147483648:=by
 have h1:=x.isLt;rw [Nat.pow_succ,Nat.mul_comm,<-Nat.div_div_eq_div_mul] at hn;have h2:=Nat.div_le_self (x.toNat / 2) (2 ^ m);omega
theorem q7k(x:BitVec 32)(m n:Nat)(b:Bool)(hn:n=x.toNat / 2 ^ (m+1))(hb:x.getLsbD m=b):n * 2+b.toNat=x.toNat / 2 ^ m:=by
 rw [Nat.pow_succ,<-Nat.div_div_eq_div_mul] at hn;rw [<-BitVec.testBit_toNat,Nat.testBit_eq_decide_div_mod_eq] at hb;subst hb;generalize x.toNat / 2 ^ m=q at *;by_cases h:q % 2 = 1 <;> simp [h] <;> omega
theorem wordC(x:BitVec 32)(g cap:Nat)(w:World)(hcap:32<=cap)(hc:∀ j,j < 32->w.cell? ⟨g,j,none⟩=some (.bool (x.getLsbD j))) :
  Calls Tryz.prog 112 #[.slice (some ⟨g,0,none⟩) 32 cap] w fun e w'=>e = .returned (u x)/\w=w':=by
 have HC:=Hi hc;clear hc;go_enter Tryz.func112,Tryz.ntmps112
 go_wp2
 go_loop [3,4] (fun va vi=>∃ (k n:Nat),k<=32/\vi = .int .i64 ((k:Int) - 1)/\va = .int .u32 n/\Hid (n=x.toNat / 2 ^ k)) (fun _ vi=>(intOf vi+1).toNat)
 case atStart=>exact ⟨32,0,V0,rfl,rfl,Hi (by have:=x.isLt;rw [Nat.div_eq_of_lt V0])⟩
 case round=>
  obtain ⟨k,n,hk,rfl,rfl,HN⟩:=hrel;cases k with
  | zero=>
   go_wp2
   go_ret;have h:=HN.out;rw [Nat.pow_zero,Nat.div_one] at h;exact ⟨by rw [h];rfl,rfl⟩
  | succ m=>
   have hcell:=HC.out m V0;have hn:n < 2147483648:=half_lt x m n HN.out;cases hbit:x.getLsbD m
   all_goals
    rw [hbit] at hcell;have hst:=q7k x m n _ HN.out hbit;have HS:=Hi hst;have HBT:=Hi hbit;clear hst hbit
    go_wp2
    go_round
    case rel=>exact ⟨m,_,V0,V7,rfl,Hi (by rw [<-HS.out];rfl)⟩
    case measure=>simp [intOf]
end Ref
namespace Ref
open Go.ChangeShapes Go.WideShapes Go.ChangeAt Go.RowKit WMath Word Co
section
theorem q7l(l:List Bool):∀ x∈bvals l,x.oneCell'=true:=by
 intro x hx;obtain ⟨y,_,rfl⟩:=List.mem_map.1 hx;rfl
theorem q7m(a:BitVec 32)(k:Nat):(a.rotateLeft (k+1)).getLsbD 0=(a.rotateLeft k).getLsbD 31:=by
 rw [q0W _ _ _ V2,q0W _ _ _ V2]
 congr 1;omega
theorem q7n(a:BitVec 32)(k j:Nat)(hj:j < 31):(a.rotateLeft (k+1)).getLsbD (j+1)=(a.rotateLeft k).getLsbD j:=by
 rw [q0W _ _ _ V0,q0W _ _ _ V0]
 congr 1;omega
theorem q8n(a:BitVec 32)(j:Nat)(hj:j < 32):(a.rotateLeft 0).getLsbD j=a.getLsbD j:=by
 rw [q0W _ _ _ hj]
 congr 1;omega
theorem rrotC(a:BitVec 32)(n:Nat)(hn:n < 4294967296)(w:World):Calls Tryz.prog 90 #[u a,.int .u32 n] w fun e w'=>e = .returned (u (a.rotateLeft n))/\Below w.heap.size w w':=by
 obtain ⟨i0,hi0,hz0,hz1,hz2⟩:=info_parts infoB;have hr:=q7i a (n % 32) 0 n V0;go_enter Tryz.func90,Tryz.ntmps90;go_wp2_with fail
 refine (bitsC a _).mono ?_;rintro e w2 ⟨g2,cap2,rfl,hcap2,hmx2,hg2,hs2,hc2,hb2⟩;have HC2:=Hi hc2;have HB2:=Hi hb2;have HR:=Hi hr;clear hc2 hb2 hr
 go_wp2
 go_loopw [5,6] (fun v vi wr=>∃ (k g cap:Nat),k<=n % 32/\vi = .int .u32 k/\v = .slice (some ⟨g,0,none⟩) 32 cap/\32<=cap/\g < wr.heap.size/\Hid (∀ j,j < 32->wr.cell? ⟨g,j,none⟩=some (.bool ((a.rotateLeft k).getLsbD j)))/\Below w.heap.size w wr) (fun _ vi _=>32 - (intOf vi).toNat)
 case atStart=>exact ⟨0,g2,cap2,V0,rfl,rfl,hcap2,hs2,Hi (fun j hj=>by rw [q8n a j hj];exact HC2.out j hj),HB2.out⟩
 case round=>
  obtain ⟨k,g,cap,hk,rfl,rfl,hcap,hg,HC,hb⟩:=hrel;have HB:=Hi hb;have hsz:=hb.size;clear hb HC2 HB2;by_cases hlt:k < n % 32
  ·have q:=HC.out 31 V2;have z0:=q7m a k;generalize (a.rotateLeft k).getLsbD 31=t at q z0;have Z0:=Hi z0;clear z0;have hn31:Hid (∀ (o:Obj) (j:Nat) (x:Value),(bvals (bitsTo (a.rotateLeft k) 31))[j]?=some x->(wr.alloc o).cell? ((⟨g,0,none⟩:Addr).add j)=some x):=Hi (fun o j x hx=>by
    have hj:j < 31:=by
     have:=(List.getElem?_eq_some_iff.1 hx).1;simpa [bvals,q38] using this
    have e:(⟨g,0,none⟩:Addr).add j=⟨g,j,none⟩:=by unfold Addr.add;split <;> simp_all
    rw [e,World.cell?_alloc_lt wr o ⟨_,_,_⟩ hg,HC.out j V0,<-hx];simp [bvals,bitsTo,hj])
   have ag:(Value.slice (some ⟨wr.heap.size,0,none⟩) 1 1).ownBlock≠some g:=by intro h;have h2:wr.heap.size=g:=Option.some.inj h;omega
   have c31:(31:Int)<=(cap:Int):=V0;have c32:(0:Int)<=(cap:Int):=V0;go_wp2_with fail
   go_region_held3 (fun w'=>w'.cell? ⟨g,31,none⟩=some (.bool t))
    (first
     | go_keep
     | (rw [hgrow.cell_far _ V4 (Ne.symm ag)];assumption))
    ((refine step_append_lies _ V5 _ _ _ V5 wr.heap.size 4 i0 _ 1 1 Tryz.underlying169 hi0 hz0 hz1 hz2 rfl V0 (.slice (some ⟨wr.heap.size,0,none⟩) 1 1) 1 [.bool t] V5 ((World.ownsRow_lit wr #[.bool t] 1 (Nat.le_refl _) V2 rfl).drew)
       ⟨g,0,none⟩ 31 cap (bvals (bitsTo (a.rotateLeft k) 31)) V5 (by simp [bvals,q38]) (by exact hn31.out _) (q7l _) V0 V2 V0 V3 (wr.heap.size+1) V3 ?_;intro gg cap' w1 hown1 hgrow hat hlt1))
   go_wp2_with fail
   go_roundw
   case rel=>
    have hbel:Below w.heap.size w w1:=((HB.out.alloc hsz _).drew.grown (row:=some wr.heap.size) hgrow V4 (fun q hq=>by have:=Option.some.inj hq;omega));refine ⟨k+1,gg,cap',V0,V7,rfl,?_,hlt1,Hi (fun j hj=>?_),hbel⟩
    ·rcases hown1.2 with ⟨h0,_⟩ | ⟨g9,cap9,cur,h9,_,_,h99,_,_,_⟩
     ·cases h0
     ·cases h9;exact h99
    ·rw [World.ownsRow.cellAt hown1 j V0];cases j with
     | zero=>rw [Z0.out];rfl
     | succ j=>
      rw [q7n a k j V0];have hj':j < 31:=V0;simp [bvals,bitsTo,hj']
   case measure=>simp [intOf];omega
  ·go_wp2_with fail
   have:k=n % 32:=V0;have hR:=HR.out;have hw:=wordC (a.rotateLeft (n % 32)) g cap wr hcap (fun j hj=>by rw [<-this];exact HC.out j hj);have e2:a.rotateLeft (n % 32)=a.rotateLeft n:=by
    apply BitVec.eq_of_getLsbD_eq;intro i hi;rw [q0W _ _ _ hi,q0W _ _ _ hi,Nat.mod_mod]
   rw [e2] at hw;clear e2 hR HR;refine hw.mono ?_;rintro e w' ⟨rfl,rfl⟩;go_wp2_with fail
   exact V3s
end
end Ref
namespace Co
open Go.ChangeShapes Go.WideShapes Go.ChangeAt Go.RowKit WMath Word Ref Args
def nowA(f:Nat->Bool):Array Value:=((List.range 32).map fun q=>Value.bool (f q)).toArray
theorem q2x(f:Nat->Bool)(q:Nat)(hq:q < 32):(nowA f)[q]?=some (.bool (f q)):=by
 unfold nowA;simp [hq]
theorem q8o(f:Nat->Bool)(j:Nat)(v:Bool):(nowA f).setIfInBounds j (.bool v)=nowA fun q=>if q=j then v else f q:=by
 apply Array.ext_getElem?;intro i;rw [Array.getElem?_setIfInBounds];by_cases hi:i < 32
 ·rw [q2x _ _ hi,q2x _ _ hi];by_cases h:j=i
  ·subst h;simp [nowA,hi]
  ·simp [h,Ne.symm h]
 ·have e:∀ f:Nat->Bool,(nowA f)[i]?=none:=fun f=>by simp [nowA];omega
  rw [e,e];by_cases h:j=i
  ·subst h;simp [nowA,hi]
  ·simp [h]
theorem q2i{f g:Nat->Bool}(h:∀ q,q < 32->f q=g q):nowA f=nowA g:=by
 unfold nowA
 congr 1
 exact List.map_congr_left fun q hq=>by rw [h q (List.mem_range.1 hq)]
structure Nw(wr:World)(g k:Nat)(x:BitVec 32)(j:Nat)(wx:World):Prop where
 blk:Blk wx wr.heap.size 4 (nowA fun q=>decide (q < j) && nbi k x q)
 old:∀ q,q < 32->wx.cell? ⟨g,q,none⟩=some (.bool (x.getLsbD q))
 ext:Below wr.heap.size wr wx
 lt:g < wr.heap.size
theorem Nw.stay{wr wx:World}{g k j:Nat}{x:BitVec 32}(h:Nw wr g k x j wx)(hj:nbi k x j=false):Nw wr g k x (j+1) wx:=by
 refine ⟨?_,h.old,h.ext,h.lt⟩;have:=h.blk
 rwa [q2i (g:=fun q=>decide (q < j+1) && nbi k x q) fun q _=>?_] at this
 by_cases e:q=j
 ·subst e;simp [hj]
 ·congr 1;simp;omega
theorem Nw.next{wr wx:World}{g k j:Nat}{x:BitVec 32}(h:Nw wr g k x j wx)(b:Bool)(hb:nbi k x j=b):Nw wr g k x (j+1) (wx.setCell ⟨wr.heap.size,j,none⟩ (.bool b)):=by
 refine ⟨?_,fun q hq=>?_,h.ext.setCell (p:=⟨wr.heap.size,j,none⟩) (Nat.le_refl _) _,h.lt⟩
 ·have:=h.blk.set j (.bool b);rw [q8o] at this
  rwa [q2i (g:=fun q=>decide (q < j+1) && nbi k x q) fun q _=>?_] at this
  by_cases e:q=j
  ·subst e;simp [hb]
  ·simp only [e,if_false];congr 1;simp;omega
 ·have hne:g≠wr.heap.size:=by have:=h.lt;omega
  rw [<-h.old q hq];exact World.cell?_of_block (Below.heap_setCell wx _ _ g hne)
theorem Nw.fin{wr wx:World}{g k:Nat}{x y:BitVec 32}(h:Nw wr g k x 32 wx)(hk:k < 2)(hy:∀ j,j < 32->y.getLsbD j=nb k x j):∀ j,j < 32->wx.cell? ⟨wr.heap.size,j,none⟩=some (.bool (y.getLsbD j)):=fun j hj=>by
 rw [h.blk.cell,q2x _ _ hj,hy j hj];simp [nb,hj,show ¬ (j = 31/\k = 2) from V0,show ¬ (j = 31/\k = 3) from V0]
theorem mk32:∀ w:World,(Instr.makeSlice 169 (.int .i64 32) (.int .i64 32)).run Tryz.prog w = .ok (.slice (some ⟨w.heap.size,0,none⟩) 32 32) (w.alloc (.cells (nowA fun _=>false) 4)):=fun _=>V1
theorem Nw.start{wr:World}{g k:Nat}{x:BitVec 32}(hg:g < wr.heap.size)(hx:∀ q,q < 32->wr.cell? ⟨g,q,none⟩=some (.bool (x.getLsbD q))):Nw wr g k x 0 (wr.alloc (.cells (nowA fun _=>false) 4)):=by
 refine ⟨?_,fun q hq=>?_,(Below.refl _ _).alloc (Nat.le_refl _) _,hg⟩
 ·rw [q2i (g:=fun _=>false) fun q _=>V3];exact Blk.new wr _ _
 ·rw [<-hx q hq];exact World.cell?_of_block (Below.heap_alloc wr _ g hg)
theorem Nw.cellG{wr wx:World}{g k j:Nat}{x:BitVec 32}(h:Nw wr g k x j wx)(q:Nat)(hq:q < 32):∃ b,wx.cell? ⟨wr.heap.size,q,none⟩=some (.bool b):=⟨_,by rw [h.blk.cell,q2x _ _ hq]⟩
def ShEnd(v:BitVec 32)(c:Bool)(w:World)(e:Ending)(w':World):Prop:=e = .returned (.tuple #[u v,.bool c])/\Below w.heap.size w w'
theorem rsh0(a:BitVec 32)(n:Nat)(hn:n < 4294967296)(c:Bool)(w:World) :
  Calls Tryz.prog 89 #[.int .i64 0,u a,.int .u32 n,.bool c] w (ShEnd (shV 0 a n) (shC 0 a n c) w):=by
 obtain ⟨e1,e2⟩:=q8W 0 V2 a n c;have e1':shV (0:Int) a (min (rby 0 n) 70)=shV (0:Int) a n:=e1;have e2':shC (0:Int) a (min (rby 0 n) 70) c=shC (0:Int) a n c:=e2;rw [<-e1',<-e2'];have hz:=q5E 0 V2 a;have hs0:shC 0 a 0 c=c:=by unfold shC;rw [if_neg V0,if_pos rfl]
 have hS:=q50 0 V2 a;have hC:=q2w 0 V2 a;have hmk:=mk32;have HZ:=Hi hz;have HS0:=Hi hs0;have HS:=Hi hS;have HC:=Hi hC;clear e1 e2 e1' e2' hz hs0 hS hC;have hrb:rby 0 n=n:=by unfold rby;rw [if_neg V0]
 rw [hrb];have HN:∀ i:Nat,i < min (n) 70↔i < 70/\i < n:=fun i=>V0
 clear hrb;go_enter Tryz.func89,Tryz.ntmps89;go_wp2_with fail
 refine (bitsC a _).mono ?_;rintro e w1 ⟨g,cap,rfl,hcap,hmx,hg,hs,hc,hb⟩;have HC0:=Hi hc;have HB0:=Hi hb;clear hc hb;go_wp2_with fail
 go_loopw [3,10,11] (fun vc vb vi wr=>∃ (i g cap:Nat),i<=min (n) 70/\vi = .int .u32 i/\vc = .bool (shC 0 a i c)/\vb = .slice (some ⟨g,0,none⟩) 32 cap/\32<=cap/\cap<=maxLen/\g < wr.heap.size/\Hid (∀ j,j < 32->wr.cell? ⟨g,j,none⟩=some (.bool ((shV 0 a i).getLsbD j)))/\Hid (Below w.heap.size w wr)) (fun _ _ vi _=>70 - (intOf vi).toNat)
 case atStart=>exact ⟨0,g,cap,V0,rfl,congrArg Value.bool HS0.out.symm,rfl,hcap,hmx,hs,Hi fun j hj=>by rw [show shV 0 a 0=a from HZ.out];exact HC0.out j hj,HB0⟩
 case round=>
  clear hcap hmx hs HC0 HB0 hg;obtain ⟨i,g,cap,hi,rfl,rfl,rfl,hcap,hmx,hg,HX,HB⟩:=hrel;by_cases hlt:i < min (n) 70
  ·have hS:=HS.out i;have hC:=HC.out i c;have hXX:=HX.out;have hi70:=(HN i).1 hlt;have hiN:(i:Int) < (n:Int):=V0;have hi7:(i:Int) < 70:=V0;have hx:∃ x:BitVec 32,shV 0 a i=x:=⟨_,rfl⟩;obtain ⟨x,hx⟩:=hx;rw [show shV (0:Nat) a i=x from hx] at hS hC;rw [hx] at hXX;have x0:=hXX 0 V2;have x31:=hXX 31 V2;have HS1:=Hi hS;have HC1:=Hi hC;have HX1:=Hi (Nw.start (k:=0) hg hXX);have HLT:=Hi hlt;clear hS hC hXX hx HX hi hi70 hlt HN;go_wp2_with fail
   generalize wr=wo at *
   go_loopw [13] (fun vj wr=>∃ j:Nat,j<=32/\vj = .int .i64 j/\Hid (Nw wo g 0 x j wr)) (fun vj _=>32 - (intOf vj).toNat)
   case atStart=>exact ⟨0,V0,rfl,HX1⟩
   case round=>
    clear HX1 x0 x31;obtain ⟨j,hj,rfl,HW⟩:=hrel;by_cases hj32:j < 32
    ·obtain ⟨b0,hG⟩:=HW.out.cellG j hj32;have hF:=HW.out.blk.frozen j;rcases Nat.eq_zero_or_pos j with rfl | hpos
     ·go_wp2_with fail
      go_roundw
      case rel=>exact ⟨1,V0,rfl,Hi (HW.out.stay (by simp [nbi]))⟩
      case measure=>simp [intOf]
     ·obtain ⟨m,hm⟩:∃ m,m+1=j:=⟨j - 1,V0⟩;have hO:=HW.out.old m V0;have hnb:nbi 0 x j=x.getLsbD m:=by unfold nbi;subst hm;simp
      have hjm:((j:Int) - 1).toNat=m:=V0;have hj1:(1:Int)<=(j:Int):=V0;have hj2:(0:Int) < (j:Int):=V0;have hj3:(j:Int) < 32:=V0;have hj4:(j:Int) - 1 < 32:=V0;generalize x.getLsbD m=b at *;have HM:=Hi hm;have HNB:=Hi hnb;clear hm hnb hpos;exact V3f
    ·obtain rfl:j = 32:=by omega
     have x0:=HW.out.old 0 V2;have x31:=HW.out.old 31 V2;obtain ⟨b0,hG⟩:=HW.out.cellG 31 V2;have hF:=HW.out.blk.frozen 31;have hsz:=HW.out.ext.size;have hbits:=HW.out;have HBB:=Hi (HB.out.trans (HW.out.ext.mono HB.out.size));have HFIN:=Hi (HW.out.fin V2 (HS1.out));have hlt2:wo.heap.size < wr.heap.size:=HW.out.blk.lt;have hcc:shC 0 a (i+1) c=x.getLsbD 31:=HC1.out;exact V2B
  ·have hiN:min (n) 70=i:=by omega
   have hi2:(i = 70/\70 < n)\/(i<=70/\i=n):=V0;obtain ⟨y,hy⟩:∃ y,shV 0 a i=y:=⟨_,rfl⟩;obtain ⟨cc,hcc⟩:∃ cc,shC 0 a i c=cc:=⟨_,rfl⟩;exact V2f
theorem rsh1(a:BitVec 32)(n:Nat)(hn:n < 4294967296)(c:Bool)(w:World) :
  Calls Tryz.prog 89 #[.int .i64 1,u a,.int .u32 n,.bool c] w (ShEnd (shV 1 a n) (shC 1 a n c) w):=by
 obtain ⟨e1,e2⟩:=q8W 1 V2 a n c;have e1':shV (1:Int) a (min (rby 1 n) 70)=shV (1:Int) a n:=e1;have e2':shC (1:Int) a (min (rby 1 n) 70) c=shC (1:Int) a n c:=e2;rw [<-e1',<-e2'];have hz:=q5E 1 V2 a;have hs0:shC 1 a 0 c=c:=by unfold shC;rw [if_neg V0,if_pos rfl]
 have hS:=q50 1 V2 a;have hC:=q2w 1 V2 a;have hmk:=mk32;have HZ:=Hi hz;have HS0:=Hi hs0;have HS:=Hi hS;have HC:=Hi hC;clear e1 e2 e1' e2' hz hs0 hS hC;have hrb:rby 1 n=n:=by unfold rby;rw [if_neg V0]
 rw [hrb];have HN:∀ i:Nat,i < min (n) 70↔i < 70/\i < n:=fun i=>V0
 clear hrb;go_enter Tryz.func89,Tryz.ntmps89;go_wp2_with fail
 refine (bitsC a _).mono ?_;rintro e w1 ⟨g,cap,rfl,hcap,hmx,hg,hs,hc,hb⟩;have HC0:=Hi hc;have HB0:=Hi hb;clear hc hb;go_wp2_with fail
 go_loopw [3,10,11] (fun vc vb vi wr=>∃ (i g cap:Nat),i<=min (n) 70/\vi = .int .u32 i/\vc = .bool (shC 1 a i c)/\vb = .slice (some ⟨g,0,none⟩) 32 cap/\32<=cap/\cap<=maxLen/\g < wr.heap.size/\Hid (∀ j,j < 32->wr.cell? ⟨g,j,none⟩=some (.bool ((shV 1 a i).getLsbD j)))/\Hid (Below w.heap.size w wr)) (fun _ _ vi _=>70 - (intOf vi).toNat)
 case atStart=>exact ⟨0,g,cap,V0,rfl,congrArg Value.bool HS0.out.symm,rfl,hcap,hmx,hs,Hi fun j hj=>by rw [show shV 1 a 0=a from HZ.out];exact HC0.out j hj,HB0⟩
 case round=>
  clear hcap hmx hs HC0 HB0 hg;obtain ⟨i,g,cap,hi,rfl,rfl,rfl,hcap,hmx,hg,HX,HB⟩:=hrel;by_cases hlt:i < min (n) 70
  ·have hS:=HS.out i;have hC:=HC.out i c;have hXX:=HX.out;have hi70:=(HN i).1 hlt;have hiN:(i:Int) < (n:Int):=V0;have hi7:(i:Int) < 70:=V0;have hx:∃ x:BitVec 32,shV 1 a i=x:=⟨_,rfl⟩;obtain ⟨x,hx⟩:=hx;rw [show shV (1:Nat) a i=x from hx] at hS hC;rw [hx] at hXX;have x0:=hXX 0 V2;have x31:=hXX 31 V2;have HS1:=Hi hS;have HC1:=Hi hC;have HX1:=Hi (Nw.start (k:=1) hg hXX);have HLT:=Hi hlt;clear hS hC hXX hx HX hi hi70 hlt HN;go_wp2_with fail
   generalize wr=wo at *
   go_loopw [13] (fun vj wr=>∃ j:Nat,j<=32/\vj = .int .i64 j/\Hid (Nw wo g 1 x j wr)) (fun vj _=>32 - (intOf vj).toNat)
   case atStart=>exact ⟨0,V0,rfl,HX1⟩
   case round=>
    clear HX1 x0 x31;obtain ⟨j,hj,rfl,HW⟩:=hrel;by_cases hj32:j < 32
    ·obtain ⟨b0,hG⟩:=HW.out.cellG j hj32;have hF:=HW.out.blk.frozen j;by_cases hj31:j < 31
     ·have hO:=HW.out.old (j+1) V0;have hnb:nbi 1 x j=x.getLsbD (j+1):=by unfold nbi;simp [hj31]
      have hj3:(j:Int) < 31:=V0;generalize x.getLsbD (j+1)=b at *;have HNB:=Hi hnb;clear hnb;exact V3f
     ·obtain rfl:j = 31:=by omega
      go_wp2_with fail
      go_roundw
      case rel=>exact ⟨32,V0,rfl,Hi (HW.out.stay (by simp [nbi]))⟩
      case measure=>simp [intOf]
    ·obtain rfl:j = 32:=by omega
     have x0:=HW.out.old 0 V2;have x31:=HW.out.old 31 V2;obtain ⟨b0,hG⟩:=HW.out.cellG 31 V2;have hF:=HW.out.blk.frozen 31;have hsz:=HW.out.ext.size;have hbits:=HW.out;have HBB:=Hi (HB.out.trans (HW.out.ext.mono HB.out.size));have HFIN:=Hi (HW.out.fin V2 (HS1.out));have hlt2:wo.heap.size < wr.heap.size:=HW.out.blk.lt;have hcc:shC 1 a (i+1) c=x.getLsbD 0:=HC1.out;exact V2B
  ·have hiN:min (n) 70=i:=by omega
   have hi2:(i = 70/\70 < n)\/(i<=70/\i=n):=V0;obtain ⟨y,hy⟩:∃ y,shV 1 a i=y:=⟨_,rfl⟩;obtain ⟨cc,hcc⟩:∃ cc,shC 1 a i c=cc:=⟨_,rfl⟩;exact V2f
end Co
namespace Ev
open Go Go.ChangeShapes Go.WideShapes Go.ChangeAt Go.RowKit Lx Args Pa Sh Go.Proofs.YtcgibpdjfgjldaaGreatDoor.Nm WMath Fl
def TwP(w:World)(x:BitVec 32)(e:Ending)(w':World):Prop:=e = .returned (.tuple #[uV x,.bool true])/\Below w.heap.size w w'
theorem two3(w:World)(s:Bs)(x y:BitVec 32)(hs:s=[124]\/s=[94]\/s=[38]\/s=[43]\/s=[45]):Calls Tryz.prog 47 #[.int .i64 3,.string ⟨s.toArray⟩,uV x,uV y] w (TwP w (boB s x y)):=by
 have hx:(x.toNat:Int) < 4294967296:=V00;have hy:(y.toNat:Int) < 4294967296:=V12;have HB:=Hi (Below.refl w.heap.size w);unfold TwP;have ha:=add_u x y;have hs':=sub_u x y;have h1:=b_and x y;have h2:=b_or x y;have h3:=b_xor x y;rcases hs with rfl | rfl | rfl | rfl | rfl
 ·rw [show boB [124] x y=x ||| y from rfl];go_enter Tryz.func47,Tryz.ntmps47;go_wp2_with fail
  go_ret2
  refine ⟨?_,HB.out⟩;show Ending.returned (.tuple #[.int .u32 (((x.toNat ||| y.toNat:Nat):Int)),.bool true])=_;rw [<-BitVec.toNat_or]
 ·rw [show boB [94] x y=x ^^^ y from rfl];go_enter Tryz.func47,Tryz.ntmps47;go_wp2_with fail
  go_ret2
  refine ⟨?_,HB.out⟩;show Ending.returned (.tuple #[.int .u32 (((x.toNat ^^^ y.toNat:Nat):Int)),.bool true])=_;rw [<-BitVec.toNat_xor]
 ·rw [show boB [38] x y=x &&& y from rfl];go_enter Tryz.func47,Tryz.ntmps47;go_wp2_with fail
  go_ret2
  refine ⟨?_,HB.out⟩;show Ending.returned (.tuple #[.int .u32 (((x.toNat &&& y.toNat:Nat):Int)),.bool true])=_;rw [<-BitVec.toNat_and]
 ·rw [show boB [43] x y=x+y from rfl];go_enter Tryz.func47,Tryz.ntmps47;go_wp2_with fail
  go_ret2
  refine ⟨?_,HB.out⟩;show Ending.returned (.tuple #[.int .u32 (((x.toNat:Int)+(y.toNat:Int)) % 4294967296),.bool true])=_;rw [ha]
 ·rw [show boB [45] x y=x - y from rfl];go_enter Tryz.func47,Tryz.ntmps47;go_wp2_with fail
  go_ret2
  refine ⟨?_,HB.out⟩;show Ending.returned (.tuple #[.int .u32 (((x.toNat:Int) - (y.toNat:Int)) % 4294967296),.bool true])=_;rw [hs']
theorem two4(w:World)(s:Bs)(x y:BitVec 32)(hs:s=[60,60]\/s=[62,62]\/s=[60,60,60]):Calls Tryz.prog 47 #[.int .i64 4,.string ⟨s.toArray⟩,uV x,uV y] w (TwP w (shB s x y)):=by
 have hx:(x.toNat:Int) < 4294967296:=V00;have hy:(y.toNat:Int) < 4294967296:=V12;have HB:=Hi (Below.refl w.heap.size w);unfold TwP;have HS:=Hi (Co.rsh0 x y.toNat y.isLt false w);have HT:=Hi (Co.rsh1 x y.toNat y.isLt false w);have HR:=Hi (Ref.rrotC x y.toNat y.isLt w);unfold Co.ShEnd at HS HT;rcases hs with rfl | rfl | rfl
 ·rw [show shB [60,60] x y=Word.shV 0 x y.toNat from rfl];go_enter Tryz.func47,Tryz.ntmps47;go_wp2_with fail
  refine (show Calls Tryz.prog 89 #[.int .i64 0,uV x,uV y,.bool false] w _ from HS.out).mono ?_;exact V1l
 ·rw [show shB [62,62] x y=Word.shV 1 x y.toNat from rfl];go_enter Tryz.func47,Tryz.ntmps47;go_wp2_with fail
  refine (show Calls Tryz.prog 89 #[.int .i64 1,uV x,uV y,.bool false] w _ from HT.out).mono ?_;exact V1l
 ·rw [show shB [60,60,60] x y=x.rotateLeft y.toNat from rfl];go_enter Tryz.func47,Tryz.ntmps47;go_wp2_with fail
  refine (show Calls Tryz.prog 90 #[uV x,uV y] w _ from HR.out).mono ?_;exact V1l
end Ev
end Go.Proofs.YtcgibpdjfgjldaaGreatDoor
