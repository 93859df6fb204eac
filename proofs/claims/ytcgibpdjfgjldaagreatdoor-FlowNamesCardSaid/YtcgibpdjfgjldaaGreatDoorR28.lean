/- DERIVED. Shift, Shift2, FlJo, FlNu, FlFi, FlStr, FlWo, FlMu. By an AI agent. -/
import Derived.Test.YtcgibpdjfgjldaaGreatDoorR27
import Derived.Test.YtcgibpdjfgjldaaGreatDoorR19
set_option maxRecDepth 100000
set_option maxHeartbeats 8000000
set_option linter.unusedVariables false
set_option linter.unusedSimpArgs false
namespace Go.Proofs.YtcgibpdjfgjldaaGreatDoor
namespace Word
open Go.ChangeShapes Go.WideShapes Go.ChangeAt Go.RowKit WMath
theorem and31(k:Int)(s:Nat)(hs:s < 32)(hk:k=s\/k=(s:Int) - 32):bits BinOp.and IntKind.u64 (IntKind.u64.wrap k) 31=(s:Int):=by
 have e:∃ m:Nat,IntKind.u64.wrap k=(m:Int)/\m < 18446744073709551616/\m % 32=s:=by
  rw [IntKind.wrap_u64];refine ⟨(k % 18446744073709551616).toNat,V0,V0,?_⟩;rcases hk with rfl | rfl <;> omega
 obtain ⟨m,hm,h1,h2⟩:=e;rw [hm,show (31:Int)=((31:Nat):Int) from rfl,bits_and_u64_nat m 31 h1 V0,<-h2]
 congr 1
 exact Nat.and_two_pow_sub_one_eq_mod m 5
theorem shl_int(a:BitVec 32)(s:Nat):(a.toNat:Int) * 2 ^ s % 4294967296=((a <<< s).toNat:Int):=by
 rw [BitVec.toNat_shiftLeft,Nat.shiftLeft_eq,Int.natCast_emod,Int.natCast_mul,Int.natCast_pow];rfl
theorem shr_int(a:BitVec 32)(s:Nat):(a.toNat:Int) / 2 ^ s=((a >>> s).toNat:Int):=by
 rw [BitVec.toNat_ushiftRight,Nat.shiftRight_eq_div_pow,Int.natCast_ediv,Int.natCast_pow];rfl
theorem rotl_or(a:BitVec 32)(s:Nat)(hs:s < 32):(a <<< s) ||| (a >>> (32 - s))=a.rotateLeft s:=by
 rw [BitVec.rotateLeft_def,Nat.mod_eq_of_lt hs]
theorem rotl(a:BitVec 32)(k:Int)(s:Nat)(hs:s < 32)(hk:k=s\/k=(s:Int) - 32)(w:World) :
  Calls Tryz.prog 134 #[u a,.int .i64 k] w fun e w'=>e = .returned (u (a.rotateLeft s))/\w=w':=by
 have h2:=bd a;have hb:=and31 k s hs hk;clear hk;go_enter Tryz.func134,Tryz.ntmps134
 go_wp2
 go_ret;refine ⟨?_,rfl⟩;show Ending.returned (.int .u32 (bits BinOp.or IntKind.u32 ((a.toNat:Int) * 2 ^ s % 4294967296) ((a.toNat:Int) / 2 ^ (32 - s))))=_;rw [shl_int,shr_int,b_or,rotl_or a s hs]
theorem rot(a:BitVec 32)(n:Nat)(hn:n < 4294967296)(w:World) :
  Calls Tryz.prog 109 #[u a,.int .u32 n] w fun e w'=>e = .returned (u (a.rotateLeft n))/\w=w':=by
 go_enter Tryz.func109,Tryz.ntmps109;go_wp2_with fail
 refine (rotl a _ (n % 32) V0 (by left;omega) _).mono ?_;rintro e w' ⟨rfl,rfl⟩
 go_wp2
 go_ret;exact ⟨rfl,rfl⟩
theorem bit1(m:Nat)(hm:m < 18446744073709551616):(bits BinOp.and IntKind.u64 (m:Int) 1==1)=decide (m % 2 = 1):=by
 rw [show (1:Int)=((1:Nat):Int) from rfl,bits_and_u64_nat m 1 hm V0,Nat.and_one_is_mod,Bool.eq_iff_iff];simp;omega
theorem left(a:BitVec 32)(n:Nat)(hn:n < 4294967296)(w:World) :
  Calls Tryz.prog 131 #[u a,.int .u32 n] w fun e w'=>e = .returned (.tuple #[u (a <<< n),.bool (decide (a.toNat * 2 ^ n / 4294967296 % 2 = 1))])/\w=w':=by
 have h2:=bd a;go_enter Tryz.func131,Tryz.ntmps131
 go_wp2
 go_ret2
 refine ⟨?_,rfl⟩;have e1:IntKind.u64.wrap ((a.toNat:Int) * 2 ^ min n 64)=((a.toNat * 2 ^ min n 64 % 18446744073709551616:Nat):Int):=by rw [IntKind.wrap_u64,Int.natCast_emod,Int.natCast_mul,Int.natCast_pow];rfl
 show Ending.returned (.tuple #[.int .u32 (IntKind.u64.wrap ((a.toNat:Int) * 2 ^ min n 64) % 4294967296),.bool (bits BinOp.and IntKind.u64 (IntKind.u64.wrap ((a.toNat:Int) * 2 ^ min n 64) / 4294967296) 1==1)])=_;rw [e1,show ((4294967296:Int))=((4294967296:Nat):Int) from rfl,<-Int.natCast_ediv,<-Int.natCast_emod,bit1 _ V0];have e2:a.toNat * 2 ^ min n 64 % 18446744073709551616 % 4294967296=(a <<< n).toNat:=by
  rw [BitVec.toNat_shiftLeft,Nat.shiftLeft_eq,Nat.mod_mod_of_dvd _ (by decide:4294967296 ∣ 18446744073709551616)];rcases Nat.le_total n 64 with h | h
  ·rw [Nat.min_eq_left h]
  ·rw [Nat.min_eq_right h,show n = 64+(n - 64) from V0,Nat.pow_add];rw [show (2:Nat) ^ 64 = 4294967296 * 4294967296 from V2];rw [show a.toNat * (4294967296 * 4294967296 * 2 ^ (n - 64)) = 2 ^ 32 * (a.toNat * 4294967296 * 2 ^ (n - 64)) by rw [show (2:Nat) ^ 32 = 4294967296 from V2];ac_rfl,Nat.mul_mod_right];omega
 have e3:a.toNat * 2 ^ min n 64 % 18446744073709551616 / 4294967296 % 2=a.toNat * 2 ^ n / 4294967296 % 2:=by
  rcases Nat.le_total n 64 with h | h
  ·rw [Nat.min_eq_left h];generalize a.toNat * 2 ^ n=m;omega
  ·rw [Nat.min_eq_right h,show n = 64+(n - 64) from V0,Nat.pow_add];rw [show (2:Nat) ^ 64 = 18446744073709551616 from V2];rw [show a.toNat * (18446744073709551616 * 2 ^ (n - 64)) = 4294967296 * (2 * (2147483648 * (a.toNat * 2 ^ (n - 64)))) by rw [show 18446744073709551616 = 4294967296 * (2 * 2147483648) from V2];ac_rfl];rw [Nat.mul_div_cancel_left _ V2,Nat.mul_mod_right];omega
 rw [e2,e3]
theorem right(a:BitVec 32)(n:Nat)(hn:n < 4294967296)(w:World) :
  Calls Tryz.prog 132 #[u a,.int .u32 n] w fun e w'=>e = .returned (.tuple #[u (a >>> n),.bool (decide (a.toNat * 2 / 2 ^ n % 2 = 1))])/\w=w':=by
 have h2:=bd a;go_enter Tryz.func132,Tryz.ntmps132
 go_wp2
 go_ret2
 refine ⟨?_,rfl⟩;show Ending.returned (.tuple #[.int .u32 ((a.toNat:Int) * 2 / 2 ^ min n 64 / 2 % 4294967296),.bool (bits BinOp.and IntKind.u64 ((a.toNat:Int) * 2 / 2 ^ min n 64) 1==1)])=_;have e1:(a.toNat:Int) * 2 / 2 ^ min n 64=((a.toNat * 2 / 2 ^ min n 64:Nat):Int):=by rw [Int.natCast_ediv,Int.natCast_mul,Int.natCast_pow];rfl
 have e0:a.toNat * 2 / 2 ^ min n 64=a.toNat * 2 / 2 ^ n:=by
  rcases Nat.le_total n 64 with h | h
  ·rw [Nat.min_eq_left h]
  ·rw [Nat.min_eq_right h,Nat.div_eq_of_lt V0,Nat.div_eq_of_lt (Nat.lt_of_lt_of_le (by omega:a.toNat * 2 < 2 ^ 64) (Nat.pow_le_pow_right V0 h))]
 have e4:a.toNat * 2 / 2 ^ n<=a.toNat * 2:=Nat.div_le_self _ _;rw [e1,e0,bit1 _ V0];have e2:((a.toNat * 2 / 2 ^ n:Nat):Int) / 2 % 4294967296=((a >>> n).toNat:Int):=by
  rw [BitVec.toNat_ushiftRight,Nat.shiftRight_eq_div_pow];have e5:a.toNat * 2 / 2 ^ n / 2=a.toNat / 2 ^ n:=by rw [Nat.div_div_eq_div_mul,Nat.mul_comm (2 ^ n) 2,Nat.mul_comm a.toNat 2,Nat.mul_div_mul_left _ _ V0]
  have e6:a.toNat / 2 ^ n<=a.toNat:=Nat.div_le_self _ _;generalize a.toNat * 2 / 2 ^ n=m at *;omega
 rw [e2]
theorem q82(m:Int):(bits BinOp.and IntKind.i64 m 1==1)=decide (m % 2 = 1):=by
 have e:bits BinOp.and IntKind.i64 m 1=m % 2:=by
  show IntKind.i64.wrap ((BitVec.ofInt 64 m &&& BitVec.ofInt 64 1).toNat:Int)=_;have h1:(BitVec.ofInt 64 m &&& BitVec.ofInt 64 1).toNat=(m % 2).toNat:=by
   rw [BitVec.toNat_and,show (BitVec.ofInt 64 1).toNat = 1 from rfl,Nat.and_one_is_mod,BitVec.toNat_ofInt];omega
  rw [h1,IntKind.wrap_i64];omega
 rw [e,Bool.eq_iff_iff];simp
theorem q4r(x:BitVec 32):(x.toNat:Int)=x.toInt % 4294967296:=by
 have h:=congrArg BitVec.toNat (BitVec.ofInt_toInt (x:=x));rw [BitVec.toNat_ofInt] at h;omega
theorem rightS(a:BitVec 32)(n:Nat)(hn:n < 4294967296)(w:World) :
  Calls Tryz.prog 133 #[u a,.int .u32 n] w fun e w'=>e = .returned (.tuple #[u (a.sshiftRight n),.bool (decide (a.toInt * 2 / 2 ^ n % 2 = 1))])/\w=w':=by
 have h2:=bd a;go_enter Tryz.func133,Tryz.ntmps133
 go_wp2
 go_ret2
 refine ⟨?_,rfl⟩;show Ending.returned (.tuple #[.int .u32 (wrap64 (wrap64 (wrap32 (a.toNat:Int)) * 2) / 2 ^ min n 64 / 2 % 4294967296),.bool (bits BinOp.and IntKind.i64 (wrap64 (wrap64 (wrap32 (a.toNat:Int)) * 2) / 2 ^ min n 64) 1==1)])=_;have ht:=q4r a;have hlo:=BitVec.le_toInt a;have hhi:=BitVec.toInt_lt (x:=a);have e1:wrap64 (wrap64 (wrap32 (a.toNat:Int)) * 2)=a.toInt * 2:=by
  unfold wrap64 wrap32;omega
 have e0:a.toInt * 2 / 2 ^ min n 64=a.toInt * 2 / 2 ^ n:=by
  rcases Nat.le_total n 64 with h | h
  ·rw [Nat.min_eq_left h]
  ·rw [Nat.min_eq_right h];have hp:(18446744073709551616:Int)<=2 ^ n:=by
    have:=Int.ofNat_le.2 (Nat.pow_le_pow_right (show 0 < 2 from V2) h);rw [Int.natCast_pow,Int.natCast_pow] at this;exact this
   by_cases h0:a.toInt < 0
   ·rw [Int.ediv_eq_neg_one_of_neg_of_le V0 V0,Int.ediv_eq_neg_one_of_neg_of_le V0 V0]
   ·rw [Int.ediv_eq_zero_of_lt V0 V0,Int.ediv_eq_zero_of_lt V0 V0]
 rw [e1,e0,q82];have e2:a.toInt * 2 / 2 ^ n / 2 % 4294967296=((a.sshiftRight n).toNat:Int):=by
  rw [q4r,BitVec.toInt_sshiftRight,Int.shiftRight_eq_div_pow];have e5:a.toInt * 2 / 2 ^ n / 2=a.toInt / 2 ^ n:=by
   have hp:(0:Int) < 2 ^ n:=Int.pow_pos V0;rw [Int.ediv_ediv_of_nonneg V0,Int.mul_ediv_mul_of_pos_left _ _ V0]
  rw [e5,Int.natCast_pow];rfl
 rw [e2]
def shV(k:Int)(a:BitVec 32)(n:Nat):BitVec 32:=
 if k < 0\/3 < k then 0 else if n = 0 then a else if k = 0 then a <<< n else if k = 1 then a >>> n else if k = 2 then a.sshiftRight n else a.rotateLeft ((32 - n % 32) % 32)
def shC(k:Int)(a:BitVec 32)(n:Nat)(c:Bool):Bool:=
 if k < 0\/3 < k then false else if n = 0 then c else if k = 0 then decide (a.toNat * 2 ^ n / 4294967296 % 2 = 1) else if k = 1 then decide (a.toNat * 2 / 2 ^ n % 2 = 1)
 else if k = 2 then decide (a.toInt * 2 / 2 ^ n % 2 = 1) else (a.rotateLeft ((32 - n % 32) % 32)).msb
theorem shift(k:Int)(a:BitVec 32)(n:Nat)(hn:n < 4294967296)(c:Bool)(w:World) :
  Calls Tryz.prog 108 #[.int .i64 k,u a,.int .u32 n,.bool c] w fun e w'=>e = .returned (.tuple #[u (shV k a n),.bool (shC k a n c)])/\w=w':=by
 have h2:=bd a;by_cases k0:k < 0
 ·go_enter Tryz.func108,Tryz.ntmps108
  go_wp2
  go_ret2
  exact ⟨by simp [shV,shC,k0],rfl⟩
 have k0':decide (k < 0)=false:=by simpa using k0
 by_cases k3:3 < k
 ·go_enter Tryz.func108,Tryz.ntmps108
  go_wp2
  go_ret2
  exact ⟨by simp [shV,shC,k3],rfl⟩
 have k3':decide (3 < k)=false:=by simpa using k3
 have kk:¬ (k < 0\/3 < k):=V0;by_cases n0:n = 0
 ·subst n0;go_enter Tryz.func108,Tryz.ntmps108
  go_wp2
  go_ret2
  exact ⟨by simp [shV,shC,kk],rfl⟩
 have n0':((n:Int)==0)=false:=by simpa using n0
 have hsh:k = 0\/k = 1\/k = 2\/k = 3:=V0;rcases hsh with rfl | rfl | rfl | rfl
 ·go_enter Tryz.func108,Tryz.ntmps108;go_wp2_with (go_at_call 131;refine (left a n hn _).mono ?_;rintro e w' ⟨rfl,rfl⟩)
  exact V1T
 ·go_enter Tryz.func108,Tryz.ntmps108;go_wp2_with (go_at_call 132;refine (right a n hn _).mono ?_;rintro e w' ⟨rfl,rfl⟩)
  exact V1T
 ·go_enter Tryz.func108,Tryz.ntmps108;go_wp2_with (go_at_call 133;refine (rightS a n hn _).mono ?_;rintro e w' ⟨rfl,rfl⟩)
  exact V1T
 ·have hs:(32 - n % 32) % 32 < 32:=by omega
  go_enter Tryz.func108,Tryz.ntmps108;go_wp2_with fail
  refine (rotl a _ ((32 - n % 32) % 32) hs V0 _).mono ?_;rintro e w' ⟨rfl,rfl⟩;go_wp2_with (go_at_call 135;refine (highest _ _).mono ?_;rintro e w' ⟨rfl,rfl⟩)
  go_ret2
  refine ⟨?_,rfl⟩;simp [shV,shC,n0]
end Word
namespace Fl
open Go Go.ChangeShapes Go.WideShapes Go.ChangeAt Go.RowKit Lx Args Pa Sh Go.Proofs.YtcgibpdjfgjldaaGreatDoor.Nm WMath
def unB(s:Bs)(x:BitVec 32):BitVec 32:=if s=[126] then ~~~x else if s=[45] then -x else 0
def boB(s:Bs)(x y:BitVec 32):BitVec 32:=
 if s=[43] then x+y else if s=[45] then x - y else if s=[38] then x &&& y else if s=[124] then x ||| y else if s=[94] then x ^^^ y else 0
def shB(s:Bs)(x y:BitVec 32):BitVec 32:=
 if s=[60,60] then Word.shV 0 x y.toNat else if s=[62,62] then Word.shV 1 x y.toNat else if s=[60,60,60] then x.rotateLeft y.toNat else 0
abbrev uV(x:BitVec 32):Value:=.int .u32 (x.toNat:Int)
def WoP(w:World)(x:BitVec 32)(e:Ending)(w':World):Prop:=e = .returned (uV x)/\Below w.heap.size w w'
theorem add_u(x y:BitVec 32):((x.toNat:Int)+(y.toNat:Int)) % 4294967296=((x+y).toNat:Int):=by
 rw [BitVec.toNat_add];omega
theorem sub_u(x y:BitVec 32):((x.toNat:Int) - (y.toNat:Int)) % 4294967296=((x - y).toNat:Int):=by
 have hx:=x.isLt;have hy:=y.isLt;rw [BitVec.toNat_sub];omega
theorem neg_u(x:BitVec 32):(-(x.toNat:Int)) % 4294967296=((-x).toNat:Int):=by
 have hx:=x.isLt;rw [BitVec.toNat_neg];omega
theorem alone(w:World)(s:Bs)(x:BitVec 32):Calls Tryz.prog 79 #[.string ⟨s.toArray⟩,uV x] w (WoP w (unB s x)):=by
 have hx:(x.toNat:Int) < 4294967296:=V16;have HNE:=neg_u x;have HB:=Hi (Below.refl w.heap.size w);unfold WoP;obtain ⟨res,hres⟩:∃ res,unB s x=res:=⟨_,rfl⟩;have Ad:=Hi hres;rw [hres];clear hres;unfold unB at Ad;by_cases e1:s=[126]
 ·subst e1;have HQ:=Hi (show ~~~x=res from Ad.out);have hun:=un_not x;clear Ad;go_enter Tryz.func79,Tryz.ntmps79;go_wp2_with fail
  go_ret;refine ⟨?_,HB.out⟩;rw [<-HQ.out];show Ending.returned (.int .u32 (((4294967295 - x.toNat:Nat):Int)))=_;rw [show 4294967295 - x.toNat=(~~~x).toNat from (BitVec.toNat_not (x:=x)).symm]
 by_cases e2:s=[45]
 ·subst e2;have HQ:=Hi (show -x=res from Ad.out);clear Ad;go_enter Tryz.func79,Tryz.ntmps79;go_wp2_with fail
  go_ret;refine ⟨?_,HB.out⟩;rw [<-HQ.out];show Ending.returned (.int .u32 ((-(x.toNat:Int)) % 4294967296))=_;rw [HNE]
 have HQ:=Hi (show (0:BitVec 32)=res by rw [<-Ad.out,if_neg e1,if_neg e2]);have f1:(s==[126])=false:=by simpa using e1
 have f2:(s==[45])=false:=by simpa using e2
 clear Ad;go_enter Tryz.func79,Tryz.ntmps79;go_wp2_with fail
 go_ret;refine ⟨?_,HB.out⟩;rw [<-HQ.out];rfl
theorem both(w:World)(s:Bs)(x y:BitVec 32):Calls Tryz.prog 80 #[.string ⟨s.toArray⟩,uV x,uV y] w (WoP w (boB s x y)):=by
 have hx:(x.toNat:Int) < 4294967296:=V16;have hy:(y.toNat:Int) < 4294967296:=by have:=y.isLt;omega
 have ha:=add_u x y;have hs:=sub_u x y;have h1:=b_and x y;have h2:=b_or x y;have h3:=b_xor x y;have HB:=Hi (Below.refl w.heap.size w);unfold WoP;obtain ⟨res,hres⟩:∃ res,boB s x y=res:=⟨_,rfl⟩;have Ad:=Hi hres;rw [hres];clear hres;unfold boB at Ad;by_cases e1:s=[43]
 ·subst e1;have HQ:=Hi (show x+y=res from Ad.out);clear Ad;go_enter Tryz.func80,Tryz.ntmps80;go_wp2_with fail
  go_ret;refine ⟨?_,HB.out⟩;rw [<-HQ.out];show Ending.returned (.int .u32 (((x.toNat:Int)+(y.toNat:Int)) % 4294967296))=_;rw [ha]
 by_cases e2:s=[45]
 ·subst e2;have HQ:=Hi (show x - y=res from Ad.out);clear Ad;go_enter Tryz.func80,Tryz.ntmps80;go_wp2_with fail
  go_ret;refine ⟨?_,HB.out⟩;rw [<-HQ.out];show Ending.returned (.int .u32 (((x.toNat:Int) - (y.toNat:Int)) % 4294967296))=_;rw [hs]
 by_cases e3:s=[38]
 ·subst e3;have HQ:=Hi (show x &&& y=res from Ad.out);clear Ad;go_enter Tryz.func80,Tryz.ntmps80;go_wp2_with fail
  go_ret;refine ⟨?_,HB.out⟩;rw [<-HQ.out];show Ending.returned (.int .u32 (((x.toNat &&& y.toNat:Nat):Int)))=_;rw [<-BitVec.toNat_and]
 by_cases e4:s=[124]
 ·subst e4;have HQ:=Hi (show x ||| y=res from Ad.out);clear Ad;go_enter Tryz.func80,Tryz.ntmps80;go_wp2_with fail
  go_ret;refine ⟨?_,HB.out⟩;rw [<-HQ.out];show Ending.returned (.int .u32 (((x.toNat ||| y.toNat:Nat):Int)))=_;rw [<-BitVec.toNat_or]
 by_cases e5:s=[94]
 ·subst e5;have HQ:=Hi (show x ^^^ y=res from Ad.out);clear Ad;go_enter Tryz.func80,Tryz.ntmps80;go_wp2_with fail
  go_ret;refine ⟨?_,HB.out⟩;rw [<-HQ.out];show Ending.returned (.int .u32 (((x.toNat ^^^ y.toNat:Nat):Int)))=_;rw [<-BitVec.toNat_xor]
 have HQ:=Hi (show (0:BitVec 32)=res by rw [<-Ad.out,if_neg e1,if_neg e2,if_neg e3,if_neg e4,if_neg e5]);have f1:(s==[43])=false:=by simpa using e1
 have f2:(s==[45])=false:=by simpa using e2
 have f3:(s==[38])=false:=by simpa using e3
 have f4:(s==[124])=false:=by simpa using e4
 have f5:(s==[94])=false:=by simpa using e5
 clear Ad;go_enter Tryz.func80,Tryz.ntmps80;go_wp2_with fail
 go_ret;refine ⟨?_,HB.out⟩;rw [<-HQ.out];rfl
theorem shifted(w:World)(s:Bs)(x y:BitVec 32):Calls Tryz.prog 81 #[.string ⟨s.toArray⟩,uV x,uV y] w (WoP w (shB s x y)):=by
 have hx:(x.toNat:Int) < 4294967296:=V16;have hy:(y.toNat:Int) < 4294967296:=by have:=y.isLt;omega
 have HS:=Hi (Word.shift 0 x y.toNat y.isLt false w);have HT:=Hi (Word.shift 1 x y.toNat y.isLt false w);have HR:=Hi (Word.rot x y.toNat y.isLt w);have HB:=Hi (Below.refl w.heap.size w);unfold WoP;obtain ⟨res,hres⟩:∃ res,shB s x y=res:=⟨_,rfl⟩;have Ad:=Hi hres;rw [hres];clear hres;unfold shB at Ad;by_cases e1:s=[60,60]
 ·subst e1;have HQ:=Hi (show Word.shV 0 x y.toNat=res from Ad.out);rw [HQ.out] at HS;clear Ad;go_enter Tryz.func81,Tryz.ntmps81;go_wp2_with fail
  refine HS.out.mono ?_;exact V1u
 by_cases e2:s=[62,62]
 ·subst e2;have HQ:=Hi (show Word.shV 1 x y.toNat=res from Ad.out);rw [HQ.out] at HT;clear Ad;go_enter Tryz.func81,Tryz.ntmps81;go_wp2_with fail
  refine HT.out.mono ?_;exact V1u
 by_cases e3:s=[60,60,60]
 ·subst e3;have HQ:=Hi (show x.rotateLeft y.toNat=res from Ad.out);rw [HQ.out] at HR;clear Ad;go_enter Tryz.func81,Tryz.ntmps81;go_wp2_with fail
  refine HR.out.mono ?_;exact V1u
 have HQ:=Hi (show (0:BitVec 32)=res by rw [<-Ad.out,if_neg e1,if_neg e2,if_neg e3]);have f1:(s==[60,60])=false:=by simpa using e1
 have f2:(s==[62,62])=false:=by simpa using e2
 have f3:(s==[60,60,60])=false:=by simpa using e3
 clear Ad;go_enter Tryz.func81,Tryz.ntmps81;go_wp2_with fail
 go_ret;refine ⟨?_,HB.out⟩;rw [<-HQ.out];rfl
end Fl
namespace Fl
open Go Go.ChangeShapes Go.WideShapes Go.ChangeAt Go.RowKit Lx Args Pa Sh Go.Proofs.YtcgibpdjfgjldaaGreatDoor.Nm
/-! A loop's variable. -/
def NumP(w:World)(lo:Lo)(s:Bs)(e:Ending)(w':World):Prop:=e = .returned (.tuple #[.int .u32 (loN (lo s)),.bool (lo s).isSome])/\Below w.heap.size w w'
theorem number(w:World)(b n:Nat)(kn:Kw)(h:MpW w b n kn)(s:Bs)(hs:s.length<=maxLen) :
  Calls Tryz.prog 149 #[.map (some b),.string ⟨s.toArray⟩] w (NumP w (bL kn) s):=by
 have hrun:=q2X h hs;unfold wkV at hrun;rw [wkAt_lo,q3G] at hrun;obtain ⟨w1,hw1,hb1,hX1⟩:=aS w #[.bool (secB kn s),.bool (bL kn s).isSome,.int .u32 (loN (bL kn s))] 180;have HB:=Hi hb1;have HW:=Hi hw1;obtain ⟨c0,c1,c2,f0,f1,f2⟩:=Aa.c3 hX1;unfold NumP;clear h hw1 hb1 hX1;generalize secB kn s=q at *;generalize (bL kn s).isSome=q1 at *;generalize loN (bL kn s)=q2 at *;go_enter Tryz.func149,Tryz.ntmps149;go_upto_region 2 with fail
 rw [HW.out]
 go_region
 all_goals (
  go_wp2_with fail
  go_ret2
  exact ⟨rfl,Below.drew HB.out⟩)
/-! Texts in a row. -/
theorem sindex(A:Option Addr)(c:Nat)(l:List Bs)(a:Bs)(w:World)(hA:Af w A (l.map ai))(hl:l.length<=100) :
  Calls Tryz.prog 188 #[.slice A l.length c,.string ⟨a.toArray⟩] w fun e w'=>∃ r:Int,e = .returned (.int .i64 r)/\l.contains a=decide (0<=r)/\Below w.heap.size w w':=by
 have HA:=Hi hA;clear hA;go_enter Tryz.func188,Tryz.ntmps188;go_wp2_with fail
 go_loopw [8] (fun vi wr=>∃ i:Nat,i<=l.length/\vi = .int .i64 (i:Int)/\Hid (Below w.heap.size w wr)/\Hid (∀ j,j < i->l[j]?≠some a)) (fun vi _=>l.length - (intOf vi).toNat)
 case atStart=>exact ⟨0,V0,rfl,Hi (Below.refl _ _),Hi fun j hj=>absurd hj V0⟩
 case round=>
  obtain ⟨i,hi,rfl,HH,HQ⟩:=hrel;by_cases hlt:i < l.length
  ·obtain ⟨p,hp⟩:∃ p,l[i]?=some p:=⟨_,List.getElem?_eq_getElem hlt⟩;have f1:(l.map ai)[i]?=some (.string ⟨p.toArray⟩):=VE;obtain ⟨b,o,rfl,_,hc1⟩:=(HA.out.below HH.out).at_ f1;have e1:=hc1 _ _ f1;by_cases hpa:a=p
   ·exact V3c
   ·have HN:=Hi (show ∀ j,j < i+1->l[j]?≠some a from fun j hj=>by
     by_cases h:j < i
     ·exact HQ.out j h
     ·obtain rfl:j=i:=by omega
      rw [hp];intro h;exact hpa (Option.some.inj h).symm)
    have hne:(a==p)=false:=by simpa using hpa
    exact V3g
  ·exact V2z
theorem scontains(A:Option Addr)(c:Nat)(l:List Bs)(a:Bs)(w:World)(hA:Af w A (l.map ai))(hl:l.length<=100) :
  Calls Tryz.prog 161 #[.slice A l.length c,.string ⟨a.toArray⟩] w fun e w'=>e = .returned (.bool (l.contains a))/\Below w.heap.size w w':=by
 have HI:=Hi (sindex A c l a w hA hl);clear hA;generalize l.contains a=res at HI ⊢;go_enter Tryz.func161,Tryz.ntmps161;go_wp2_with fail
 refine HI.out.mono ?_;rintro e w1 ⟨r,rfl,hr,hb⟩;subst hr;have HB:=Hi hb;clear hb;go_wp2_with fail
 go_ret;exact ⟨rfl,HB.out⟩
/-! A node's form. -/
theorem hasForm(w:World)(k a:Int)(s:Bs)(n:Nat)(A:Option Addr)(la cA:Nat)(B:Option Addr)(lb cB:Nat)(m:Nat)(G:Option Addr)(c:Nat)(sg:List Bs)(hG:Af w G (sg.map ai))(hl:sg.length<=100) :
  Calls Tryz.prog 130 #[aO k a s n A la cA B lb cB,.int .i64 (m:Int),.slice G sg.length c] w (TellP w (decide (la=m) && sg.contains s)):=by
 obtain ⟨w1,hw1,hb1,hX1,_⟩:=dw w (nB k a s n A la cA B lb cB);have HC:=Hi (scontains G c sg s w1 (hG.below hb1) hl);obtain ⟨⟨e0,e1,e2,e3,e4,e5⟩,z0,z1,z2,z3,z4,z5⟩:=Aa.c6 hX1;have HB:=Hi hb1;have HW:=Hi hw1;have hml:((la:Int)==(m:Int))=decide (la=m):=by
  cases h:decide (la=m) <;> simp at h ⊢ <;> omega
 clear hG hw1 hb1 hX1;generalize sg.contains s=q at *;go_enter Tryz.func130,Tryz.ntmps130;cases hd:decide (la=m) with
 | false=>
  rw [hd] at hml;go_wp2_with fail
  rw [HW.out];go_ret;exact ⟨rfl,HB.out⟩
 | true=>
  rw [hd] at hml;go_wp2_with fail
  rw [HW.out];refine HC.out.mono ?_;rintro e w2 ⟨rfl,hb2⟩;have HB2:=Hi (HB.out.trans (hb2.mono HB.out.size));clear hb2;exact V1C
theorem q3J(w:World)(l:List Bs):∃ w1,w.alloc (.cells (l.map ai).toArray 9)=w1/\Below w.heap.size w w1/\Af w1 (some ⟨w.heap.size,0,none⟩) (l.map ai):=
 ⟨_,rfl,(Below.refl _ _).alloc (Nat.le_refl _) _,q06 _ _ _⟩
abbrev nuV(b:Nat):Value:=.func (.func 149) #[.map (some b)] #[]
def nvQ:Bool×Nat->Value
 | (false,b)=>nuV b
 | (true,p)=>.func (.func 70) #[] #[.pointer (some ⟨p,0,none⟩)]
def nuF:Bool×Nat->Nat
 | (false,_)=>149
 | (true,_)=>70
def nuA:Bool×Nat->Bs->Array Value
 | (false,b),s=>#[.map (some b),.string ⟨s.toArray⟩]
 | (true,p),s=>#[.string ⟨s.toArray⟩,.pointer (some ⟨p,0,none⟩)]
structure NuI(q:Bool×Nat)(lo:Lo)(I:World->Prop):Prop where
 mono:∀ {w w':World},I w->Below w.heap.size w w'->I w'
 run:∀ w,I w->∀ s:Bs,s.length<=maxLen->Calls Tryz.prog (nuF q) (nuA q s) w (NumP w lo s)
theorem mpI(b q:Nat)(kn:Kw):NuI (false,b) (bL kn) (fun w=>MpW w b q kn) where
 mono:=fun h hb=>h.upd (Upd.of_below hb fun _=>False) id
 run:=fun w h s hs=>number w b q kn h s hs
theorem fitsQ(w:World)(q:Bool×Nat)(lo:Lo)(I:World->Prop)(hI:NuI q lo I)(h:I w)(k a:Int)(s:Bs)(hs:s.length<=maxLen)(n:Nat)(A:Option Addr)(la cA:Nat)(B:Option Addr)(lb cB:Nat) :
  Calls Tryz.prog 105 #[aO k a s n A la cA B lb cB,nvQ q] w (TellP w (fitB lo k s la)):=by
 obtain ⟨w1,hw1,hb1,hX1,hs1⟩:=dw w (nB k a s n A la cA B lb cB);have HN:=Hi (hI.run w1 (hI.mono h hb1) s hs);obtain ⟨w2,hw2,hb2,hL2⟩:=q3J w1 sgU;obtain ⟨w3,hw3,hb3,hL3⟩:=q3J w1 sgB;obtain ⟨w4,hw4,hb4,hL4⟩:=q3J w1 sgS;rw [hs1] at hL2 hL3 hL4;have HU:=Hi (hasForm w2 k a s n A la cA B lb cB 1 _ 2 sgU hL2 V2);have HF:=Hi (hasForm w3 k a s n A la cA B lb cB 2 _ 5 sgB hL3 V2);have HS:=Hi (hasForm w4 k a s n A la cA B lb cB 2 _ 3 sgS hL4 V2);obtain ⟨⟨e0,e1,e2,e3,e4,e5⟩,z0,z1,z2,z3,z4,z5⟩:=Aa.c6 hX1;have HB:=Hi hb1;have HW:=Hi hw1;have HW2:=Hi hw2;have HW3:=Hi hw3;have HW4:=Hi hw4;have HB2:=Hi (hb1.trans (hb2.mono hb1.size));have HB3:=Hi (hb1.trans (hb3.mono hb1.size));have HB4:=Hi (hb1.trans (hb4.mono hb1.size));obtain ⟨res,hres⟩:∃ res,fitB (lo) k s la=res:=⟨_,rfl⟩;have Ad:=Hi hres;rw [hres];clear h hw1 hb1 hX1 hw2 hb2 hL2 hw3 hb3 hL3 hw4 hb4 hL4 hs1 hres;unfold fitB at Ad;by_cases hk1:k = 1
 ·subst hk1;have HR:=Hi (show (lo s).isSome=res from V1P);unfold NumP at HN;rw [HR.out] at HN;clear HR Ad;generalize loN (lo s)=q2 at HN;clear HU HF HS HW2 HW3 HW4 HB2 HB3 HB4;obtain ⟨q,b⟩:=q;cases q
  case' false=>
   have hen:∀ w:World,(callFunc 149 #[.map (some b),.string ⟨s.toArray⟩]).run Tryz.prog w = .ok (.enter 149 #[.map (some b),.string ⟨s.toArray⟩]) w:=fun _=>V1
   have HN:=Hi (show Calls Tryz.prog 149 #[.map (some b),.string ⟨s.toArray⟩] w1 _ from HN.out);show Calls Tryz.prog 105 #[aO 1 a s n A la cA B lb cB,.func (.func 149) #[.map (some b)] #[]] w _
  case' true=>
   have hen:∀ w:World,(callFunc 70 #[.string ⟨s.toArray⟩,.pointer (some ⟨b,0,none⟩)]).run Tryz.prog w = .ok (.enter 70 #[.string ⟨s.toArray⟩,.pointer (some ⟨b,0,none⟩)]) w:=fun _=>V1
   have HN:=Hi (show Calls Tryz.prog 70 #[.string ⟨s.toArray⟩,.pointer (some ⟨b,0,none⟩)] w1 _ from HN.out);show Calls Tryz.prog 105 #[aO 1 a s n A la cA B lb cB,.func (.func 70) #[] #[.pointer (some ⟨b,0,none⟩)]] w _
  all_goals
   go_enter Tryz.func105,Tryz.ntmps105;go_wp2_with fail
   rw [HW.out];refine HN.out.mono ?_;rintro e w5 ⟨rfl,hb5⟩;have HB5:=Hi (HB.out.trans (hb5.mono HB.out.size));clear hb5;go_wp2_with fail
   go_ret;exact ⟨rfl,HB5.out⟩
 go_enter Tryz.func105,Tryz.ntmps105;by_cases hk0:k = 0
 ·subst hk0;have HR:=Hi (show true=res from V24);go_wp2_with fail
  rw [HW.out];go_ret;exact ⟨by rw [<-HR.out];rfl,HB.out⟩
 by_cases hk2:k = 2
 ·subst hk2;have HR:=Hi (show (decide (la = 1) && sgU.contains s)=res by rw [<-Ad.out,if_neg V2,if_neg V2,if_pos rfl]);rw [HR.out] at HU;go_wp2_with fail
  rw [HW.out];rw [show w1.alloc (.cells #[.string ⟨#[126]⟩,.string ⟨#[45]⟩] 9)=w2 from HW2.out];refine (show Calls Tryz.prog 130 #[aO 2 a s n A la cA B lb cB,.int .i64 1,.slice (some ⟨w.heap.size+1,0,none⟩) 2 2] w2 _ from HU.out).mono ?_;rintro e w5 ⟨rfl,hb5⟩;have HB5:=Hi (HB2.out.trans (hb5.mono HB2.out.size));exact V1y
 by_cases hk3:k = 3
 ·subst hk3;have HR:=Hi (show (decide (la = 2) && sgB.contains s)=res by rw [<-Ad.out,if_neg V2,if_neg V2,if_neg V2,if_pos rfl]);rw [HR.out] at HF;go_wp2_with fail
  rw [HW.out];rw [show w1.alloc (.cells #[.string ⟨#[43]⟩,.string ⟨#[45]⟩,.string ⟨#[38]⟩,.string ⟨#[124]⟩,.string ⟨#[94]⟩] 9)=w3 from HW3.out];refine (show Calls Tryz.prog 130 #[aO 3 a s n A la cA B lb cB,.int .i64 2,.slice (some ⟨w.heap.size+1,0,none⟩) 5 5] w3 _ from HF.out).mono ?_;rintro e w5 ⟨rfl,hb5⟩;have HB5:=Hi (HB3.out.trans (hb5.mono HB3.out.size));exact V1y
 by_cases hk4:k = 4
 ·subst hk4;have HR:=Hi (show (decide (la = 2) && sgS.contains s)=res by rw [<-Ad.out,if_neg V2,if_neg V2,if_neg V2,if_neg V2,if_pos rfl]);rw [HR.out] at HS;go_wp2_with fail
  rw [HW.out];rw [show w1.alloc (.cells #[.string ⟨#[60,60]⟩,.string ⟨#[62,62]⟩,.string ⟨#[60,60,60]⟩] 9)=w4 from HW4.out];refine (show Calls Tryz.prog 130 #[aO 4 a s n A la cA B lb cB,.int .i64 2,.slice (some ⟨w.heap.size+1,0,none⟩) 3 3] w4 _ from HS.out).mono ?_;rintro e w5 ⟨rfl,hb5⟩;have HB5:=Hi (HB4.out.trans (hb5.mono HB4.out.size));exact V1y
 have HR:=Hi (show false=res by rw [<-Ad.out,if_neg hk0,if_neg hk1,if_neg hk2,if_neg hk3,if_neg hk4]);have i0:(k==0)=false:=V4;have i1:(k==1)=false:=V4;have i2:(k==2)=false:=V4;have i3:(k==3)=false:=V4;have i4:(k==4)=false:=V4;clear hk0 hk1 hk2 hk3 hk4;go_wp2_with fail
 rw [HW.out];go_ret;exact ⟨by rw [<-HR.out];rfl,HB.out⟩
abbrev zNV:Value:=.agg #[.int .i64 0,.string ⟨#[]⟩,.int .u32 0,.int .i64 0,.slice none 0 0,.slice none 0 0]
def StrP(w:World)(r:Option (Int×Int×Bs))(e:Ending)(w':World):Prop:=
 match r with
 | none=>e = .returned (.tuple #[zNV,.bool false])/\Below w.heap.size w w'
 | some (k,a,s)=>s.length<=maxLen/\(∃ (n:Nat) (A:Option Addr) (la cA:Nat) (B:Option Addr) (lb cB:Nat),e = .returned (.tuple #[aO k a s n A la cA B lb cB,.bool true]))/\Below w.heap.size w w'
theorem szNd:(Tryz.prog.info? 26).map (·.size)=some 6:=V1
theorem q4N{fn:Func}{p q:Tmp}{tx:TypeId}(h:fn.results = #[.cell p tx,.tmp q]){P:Program}(tmps:Array Value)(w:World)(g1:Nat)(v1:Value)
  (hp:tmps.getD p undef = .pointer (some ⟨g1,0,none⟩)) (h1:(loadVar tx ⟨g1,0,none⟩).run P w = .ok v1 w) :
  (results fn tmps).run P w = .ok (.tuple #[v1,tmps.getD q undef]) w:=by
 have hp':tmps[p]?.getD undef = .pointer (some ⟨g1,0,none⟩):=VQ;simp [results,h,hp',asAddr,h1]
theorem resStr{g:Nat}{n:Array Value}{W:World}(hN:Aa W g 26 n)(hs:some 6=some n.size)(tmps:Array Value)(h4:tmps.getD 4 undef = .pointer (some ⟨g,0,none⟩)) :
  (results Tryz.f72 tmps).run Tryz.prog W = .ok (.tuple #[.agg n,tmps.getD 5 undef]) W:=
 q4N rfl tmps W g (.agg n) h4 (run_loadVar_row W g 26 26 n (0,0) _ hN Tryz.underlying26 rfl (szNd.trans hs))
theorem boxes2(w:World)(cs:Array Value):∃ w0,(w.alloc (.cells cs 26)).alloc (.cells #[.int .i64 0,.string ⟨#[]⟩,.int .u32 0,.int .i64 0,.slice none 0 0,.slice none 0 0] 26)=w0/\Below w.heap.size w w0/\w0.heap.size=w.heap.size+2 /\
  Aa w0 w.heap.size 26 cs/\Aa w0 (w.heap.size+1) 26 #[.int .i64 0,.string ⟨#[]⟩,.int .u32 0,.int .i64 0,.slice none 0 0,.slice none 0 0]:=by
 refine ⟨_,rfl,((Below.refl _ _).alloc (Nat.le_refl _) _).alloc V3 _,V3,(Aa.new _ _ _).alloc _,?_⟩;have h:=Aa.new (w.alloc (.cells cs 26)) 26 #[.int .i64 0,.string ⟨#[]⟩,.int .u32 0,.int .i64 0,.slice none 0 0,.slice none 0 0];have e:(w.alloc (.cells cs 26)).heap.size=w.heap.size+1:=V3;rw [e] at h;exact h
abbrev az(w:World)(g:Nat)(a b c d e f:Value):World:=(((((w.setCell ⟨g,0,none⟩ a).setCell ⟨g,1,none⟩ b).setCell ⟨g,2,none⟩ c).setCell ⟨g,3,none⟩ d).setCell ⟨g,4,none⟩ e).setCell ⟨g,5,none⟩ f
theorem q3K{w:World}{g:Nat}{t:TypeId}{a' b' c' d' e' f':Value}(h:Aa w g t #[a',b',c',d',e',f'])(a b c d e f:Value):Aa (az w g a b c d e f) g t #[a,b,c,d,e,f]:=(((((h.set 0 a).set 1 b).set 2 c).set 3 d).set 4 e).set 5 f
theorem q2i{w:World}{g B:Nat}(hB:B<=g){W:World}(h:Below B W w)(a b c d e f:Value):Below B W (az w g a b c d e f):=
 (((((h.setCell (p:=⟨g,0,none⟩) hB a).setCell (p:=⟨g,1,none⟩) hB b).setCell (p:=⟨g,2,none⟩) hB c).setCell (p:=⟨g,3,none⟩) hB d).setCell (p:=⟨g,4,none⟩) hB e).setCell (p:=⟨g,5,none⟩) hB f
theorem q2j(lo:Lo)(x:Tz)(l:List Tz):bM lo (x :: l)=match strB lo x with | some e=>some e | none=>bM lo l:=by
 conv=>lhs;unfold bM
 cases strB lo x <;> rfl
theorem strayQ{w0:World}{q:Bool×Nat}{lo:Lo}{I:World->Prop}(hI:NuI q lo I):∀ (m:Nat) (z:Tz),SizeOf.sizeOf z < m->∀ (w:World) (k a:Int) (s:Bs) (n:Nat) (A:Option Addr) (la cA:Nat) (B:Option Addr) (lb cB:Nat),Below w0.heap.size w0 w->I w->TrV w0 z k a s n A la cA B lb cB ->
  Calls Tryz.prog 72 #[aO k a s n A la cA B lb cB,nvQ q] w (StrP w (strB (lo) z))
 | 0,z,h=>absurd h (Nat.not_lt_zero _)
 | m+1,.mk k1 a1 s1 n1 ps l,hm=>fun w k a s n A la cA B lb cB hb hM hT=>by
  obtain ⟨rfl,rfl,rfl,rfl,rfl,rfl,hP,hs,hn,-,-,-,-⟩:=hT.parts;obtain ⟨w1,hw1,hb1,hs1,hX1,hR1⟩:=boxes2 w (nB k a s n A l.length cA B ps.length cB);have hM1:=hI.mono hM hb1;have HFI:=Hi (fitsQ w1 q lo I hI hM1 k a s hs n A l.length cA B ps.length cB);have hstr:strB (lo) (.mk k a s n ps l)=if fitB (lo) k s l.length=true then bM (lo) l else some (k,a,s):=by conv=>lhs;unfold strB
  rw [hstr];have IH:=Hi (strayQ (w0:=w0) hI m);have HB1:=Hi hb1;have HW1:=Hi hw1;have AP:=Hi hX1;have HR1:=Hi hR1;have HM1:=Hi hM1;have HP:=Hi hP;have HS:=Hi hs;have HB0:=Hi (hb.trans (hb1.mono hb.size));have HM:=Hi hm;have HSZ:=Hi hs1;obtain ⟨⟨e0,e1,e2,e3,e4,e5⟩,z0,z1,z2,z3,z4,z5⟩:=Aa.c6 hX1;generalize fitB (lo) k s l.length=fi at HFI ⊢;obtain ⟨res,hres⟩:∃ res,(if fi=true then bM (lo) l else some (k,a,s))=res:=⟨_,rfl⟩;rw [hres];have Ad:=Hi hres;clear hres;obtain ⟨g0,hg0⟩:∃ g0,w.heap.size=g0:=⟨_,rfl⟩;have HG0:=Hi hg0;rw [hg0] at e0 e1 e2 e3 e4 e5 z0 z1 z2 z3 z4 z5 AP HR1;clear hb hM hT hP hb1 hw1 hX1 hR1 hM1 hstr hm hs1 hs hn;go_enter Tryz.func72,Tryz.ntmps72;go_wp2_with fail
  rw [HW1.out];refine (show Calls Tryz.prog 105 #[aO k a s n A l.length cA B ps.length cB,nvQ q] w1 _ from HFI.out).mono ?_;rintro e w2 ⟨rfl,hb2⟩;have hX2:=AP.out.below hb2 AP.out.lt;have hR2:=HR1.out.below hb2 HR1.out.lt;clear e0 e1 e2 e3 e4 e5 z0 z1 z2 z3 z4 z5;obtain ⟨⟨e0,e1,e2,e3,e4,e5⟩,z0,z1,z2,z3,z4,z5⟩:=Aa.c6 hX2;have HB2:=Hi (HB1.out.trans (hb2.mono HB1.out.size));have HR2:=Hi hR2;have Ah:=Hi hX2;have HM2:=Hi (hI.mono HM1.out hb2);have HB02:=Hi (HB0.out.trans (hb2.mono HB0.out.size));obtain ⟨⟨y0,y1,y2,y3,y4,y5⟩,x0,x1,x2,x3,x4,x5⟩:=Aa.c6 hR2;have hgl:=hR2.lt;clear hb2 hX2 hR2;cases fi with
  | false=>
   have HR9:=Hi (show some (k,a,s)=res from Ad.out);clear Ad;have HQ:=Hi (q3K HR2.out (.int .i64 k) (.string ⟨s.toArray⟩) (.int .u32 (n:Int)) (.int .i64 a) (.slice A l.length cA) (.slice B ps.length cB));have Ac:=Hi (show StrP w (some (k,a,s)) (.returned (.tuple #[aO k a s n A l.length cA B ps.length cB,.bool true])) (az w2 (g0+1) (.int .i64 k) (.string ⟨s.toArray⟩) (.int .u32 (n:Int)) (.int .i64 a) (.slice A l.length cA) (.slice B ps.length cB)) from
    ⟨HS.out,⟨n,A,l.length,cA,B,ps.length,cB,rfl⟩,q2i VH HB2.out _ _ _ _ _ _⟩)
   rw [HR9.out] at Ac;go_wp2_with fail
   exact bodyPost_ret (v:=.tuple #[aO k a s n A l.length cA B ps.length cB,.bool true]) (resStr HQ.out rfl _ rfl) rfl Ac.out
  | true=>
   have HR9:=Hi (show bM (lo) l=res from Ad.out);clear Ad;clear y0 y1 y2 y3 y4 y5 x0 x1 x2 x3 x4 x5;have hlm:l.length<=9223372036854775807:=Nat.le_trans HP.out.le HP.out.cap;go_wp2_with fail
   go_loopw [18] (fun vi wr=>∃ i:Nat,i<=l.length/\vi = .int .i64 (i:Int)/\Hid (Below w.heap.size w wr)/\Hid (Below w0.heap.size w0 wr)/\Hid (I wr)/\Hid (Aa wr (g0+1) 26 #[.int .i64 0,.string ⟨#[]⟩,.int .u32 0,.int .i64 0,.slice none 0 0,.slice none 0 0])/\Hid (bM (lo) (l.drop i)=res)) (fun vi _=>l.length - (intOf vi).toNat)
   case atStart=>exact ⟨0,V0,rfl,HB2,HB02,HM2,HR2,HR9⟩
   case round=>
    obtain ⟨i,hi,rfl,HB,HB0r,HMr,HR,HQ⟩:=hrel;by_cases hlt:i < l.length
    ·have hil:(i:Int) < (l.length:Int):=by omega
     obtain ⟨y,hy⟩:∃ y,l[i]?=some y:=⟨_,List.getElem?_eq_getElem hlt⟩;obtain ⟨bb,o,k',a',s',n',A',la',bu,B',lb',bA,hA,hTy,hbl,g0',g1,g2,g3,g4,g5⟩:=HP.out.at_ HB0r.out hy;subst hA;obtain ⟨wb,hwb,hbb,hXb,hsb⟩:=dw wr (nB k' a' s' n' A' la' bu B' lb' bA);have hsy:SizeOf.sizeOf y < m:=V3A;have hC:=IH.out y hsy wb k' a' s' n' A' la' bu B' lb' bA (HB0r.out.trans (hbb.mono HB0r.out.size)) (hI.mono HMr.out hbb) hTy;have hq:=HQ.out;rw [drop_at hy,q2j] at hq;obtain ⟨⟨e0,e1,e2,e3,e4,e5⟩,z0,z1,z2,z3,z4,z5⟩:=Aa.c6 hXb;have HC:=Hi hC;have HWB:=Hi hwb;have AL:=Hi hq;have Ay:=Hi hbb;have hbl2:bb < wr.heap.size:=Nat.lt_of_lt_of_le hbl HB0r.out.size;have HXb:=Hi hXb;have HSB:=Hi hsb;clear hC hwb hbb hXb hq hTy hsy hy hsb;generalize strB (lo) y=r2 at HC AL;go_wp2_with fail
     rw [HWB.out];refine (show Calls Tryz.prog 72 #[aO k' a' s' n' A' la' bu B' lb' bA,nvQ q] wb _ from HC.out).mono ?_;intro e w4 h4;clear e0 e1 e2 e3 e4 e5 z0 z1 z2 z3 z4 z5;cases r2 with
     | some r2=>
      obtain ⟨k2,a2,s2⟩:=r2;obtain ⟨hs2,⟨n2,A2,la2,cA2,B2,lb2,cB2,rfl⟩,hb4⟩:=h4;have hb4':=Ay.out.trans (hb4.mono Ay.out.size);have hR4:=HR.out.below hb4' HR.out.lt;obtain ⟨w5,hw5,hb5,hX5,hs5⟩:=dw w4 (nB k2 a2 s2 n2 A2 la2 cA2 B2 lb2 cB2);have hR5:=hR4.below hb5 hR4.lt;obtain ⟨⟨e0,e1,e2,e3,e4,e5⟩,z0,z1,z2,z3,z4,z5⟩:=Aa.c6 hX5;obtain ⟨⟨y0,y1,y2,y3,y4,y5⟩,x0,x1,x2,x3,x4,x5⟩:=Aa.c6 hR5;have HQ5:=Hi (q3K hR5 (.int .i64 k2) (.string ⟨s2.toArray⟩) (.int .u32 (n2:Int)) (.int .i64 a2) (.slice A2 la2 cA2) (.slice B2 lb2 cB2));have Ac:=Hi (show StrP w (some (k2,a2,s2)) (.returned (.tuple #[aO k2 a2 s2 n2 A2 la2 cA2 B2 lb2 cB2,.bool true])) (az w5 (g0+1) (.int .i64 k2) (.string ⟨s2.toArray⟩) (.int .u32 (n2:Int)) (.int .i64 a2) (.slice A2 la2 cA2) (.slice B2 lb2 cB2)) from
       ⟨hs2,⟨n2,A2,la2,cA2,B2,lb2,cB2,rfl⟩,q2i VH (HB.out.trans ((hb4'.trans (hb5.mono hb4'.size)).mono HB.out.size)) _ _ _ _ _ _⟩)
      have HQ3:=Hi (show some (k2,a2,s2)=res from AL.out);have HW5:=Hi hw5;have q1:g0+1 < w5.heap.size:=hR5.lt;have q2:¬ g0+1=w4.heap.size:=by have:=hR4.lt;omega
      have q3:¬ w4.heap.size=g0+1:=by have:=hR4.lt;omega
      have q4:w4.heap.size < w5.heap.size:=hX5.lt;rw [HQ3.out] at Ac;clear hb4 hb4' hR4 hb5 hX5 hs5 hR5 hw5;go_upto_region 7 with fail
      rw [HW5.out];go_wp2_with fail
      exact bodyPost_ret (v:=.tuple #[aO k2 a2 s2 n2 A2 la2 cA2 B2 lb2 cB2,.bool true]) (resStr HQ5.out rfl _ rfl) rfl Ac.out
     | none=>
      obtain ⟨rfl,hb4⟩:=h4;have hb4':=Ay.out.trans (hb4.mono Ay.out.size);obtain ⟨w5,hw5,hb5,hX5,hs5⟩:=dw w4 #[.int .i64 0,.string ⟨#[]⟩,.int .u32 0,.int .i64 0,.slice none 0 0,.slice none 0 0];have hb5':=hb4'.trans (hb5.mono hb4'.size);have H1:=Hi (HB.out.trans (hb5'.mono HB.out.size));have H2:=Hi (HB0r.out.trans (hb5'.mono HB0r.out.size));have H3:=Hi (hI.mono HMr.out hb5');have H4:=Hi (HR.out.below hb5' HR.out.lt);have HQ3:=Hi (show bM (lo) (l.drop (i+1))=res from AL.out);have HW5:=Hi hw5;clear hb4 hb4' hb5 hX5 hs5 hw5 hb5';go_upto_region 7 with fail
      rw [HW5.out];go_wp2_with fail
      go_roundw
      case rel=>exact ⟨i+1,V0,V7,H1,H2,H3,H4,HQ3⟩
      case measure=>simp [intOf];omega
    ·obtain rfl:i=l.length:=by omega
     have hq:=HQ.out;rw [List.drop_length] at hq
     conv at hq=>lhs;unfold bM
     have AL:=Hi hq;obtain ⟨⟨y0,y1,y2,y3,y4,y5⟩,x0,x1,x2,x3,x4,x5⟩:=Aa.c6 HR.out;have hgl:=HR.out.lt;have HQ5:=Hi (q3K HR.out (.int .i64 0) (.string ⟨#[]⟩) (.int .u32 0) (.int .i64 0) (.slice none 0 0) (.slice none 0 0));have Ac:=Hi (show StrP w none (.returned (.tuple #[zNV,.bool false])) (az wr (g0+1) (.int .i64 0) (.string ⟨#[]⟩) (.int .u32 0) (.int .i64 0) (.slice none 0 0) (.slice none 0 0)) from
      ⟨rfl,q2i VH HB.out _ _ _ _ _ _⟩)
     rw [AL.out] at Ac;clear hq;go_wp2_with fail
     exact bodyPost_ret (v:=.tuple #[zNV,.bool false]) (resStr HQ5.out rfl _ rfl) rfl Ac.out
theorem stray{w0:World}{b q:Nat}{kn:Kw}(m:Nat)(z:Tz)(h:SizeOf.sizeOf z < m)(w:World)(k a:Int)(s:Bs)(n:Nat)(A:Option Addr)(la cA:Nat)(B:Option Addr)(lb cB:Nat)(hb:Below w0.heap.size w0 w)(hM:MpW w b q kn)(hT:TrV w0 z k a s n A la cA B lb cB) :
  Calls Tryz.prog 72 #[aO k a s n A la cA B lb cB,nuV b] w (StrP w (strB (bL kn) z)):=strayQ (mpI b q kn) m z h w k a s n A la cA B lb cB hb hM hT
end Fl
namespace Fl
open Go Go.ChangeShapes Go.WideShapes Go.ChangeAt Go.RowKit Lx Args Pa Sh Go.Proofs.YtcgibpdjfgjldaaGreatDoor.Nm WMath
mutual
def aX(lo:Lo):Tz->BitVec 32
 | .mk k a s n _ l=>if k = 0 then BitVec.ofNat 32 n else if k = 1 then (lo s).getD 0 else if k = 2 then unB s (worL lo 0 l) else if k = 3 then boB s (worL lo 0 l) (worL lo 1 l) else shB s (worL lo 0 l) (worL lo 1 l)
def worL(lo:Lo):Nat->List Tz->BitVec 32
 | _,[]=>0
 | 0,x :: _=>aX lo x
 | i+1,_ :: l=>worL lo i l
end
theorem q5p(lo:Lo)(x:Tz)(l:List Tz):worL lo 0 (x :: l)=aX lo x:=by unfold worL;rfl
theorem q8K(lo:Lo)(x y:Tz)(l:List Tz):worL lo 1 (x :: y :: l)=aX lo y:=by unfold worL;exact q5p lo y l
theorem worB_mk(lo:Lo)(k a:Int)(s:Bs)(n:Nat)(ps:List Bs)(l:List Tz):aX lo (.mk k a s n ps l)=if k = 0 then BitVec.ofNat 32 n else if k = 1 then (lo s).getD 0 else if k = 2 then unB s (worL lo 0 l) else if k = 3 then boB s (worL lo 0 l) (worL lo 1 l) else shB s (worL lo 0 l) (worL lo 1 l):=by conv=>lhs;unfold aX
theorem q83{lo:Lo}{k a:Int}{s:Bs}{n:Nat}{ps:List Bs}{l:List Tz}(h:strB lo (.mk k a s n ps l)=none):fitB lo k s l.length=true/\bM lo l=none:=by
 unfold strB at h;by_cases hf:fitB lo k s l.length=true
 ·rw [if_pos hf] at h;exact ⟨hf,h⟩
 ·rw [if_neg hf] at h;cases h
theorem q2Y{lo:Lo}{x:Tz}{l:List Tz}(h:bM lo (x :: l)=none):strB lo x=none/\bM lo l=none:=by
 rw [q2j] at h;cases hx:strB lo x with
 | some e=>rw [hx] at h;cases h
 | none=>rw [hx] at h;exact ⟨rfl,h⟩
theorem Pts.cells{w0:World}{A:Option Addr}{c:Nat}{l:List Tz}(h:Pts w0 A c l){i:Nat}{y:Tz}(hy:l[i]?=some y) :
  ∃ b o k a s n A' la cA B lb cB,A=some ⟨b,o,none⟩/\TrV w0 y k a s n A' la cA B lb cB/\b < w0.heap.size/\∀ v,Below w0.heap.size w0 v->v.cell? ⟨b,o+i * 6,none⟩=some (.int .i64 k)/\v.cell? ⟨b,o+i * 6+1,none⟩=some (.string ⟨s.toArray⟩) /\
   v.cell? ⟨b,o+i * 6+2,none⟩=some (.int .u32 (n:Int))/\v.cell? ⟨b,o+i * 6+3,none⟩=some (.int .i64 a)/\v.cell? ⟨b,o+i * 6+4,none⟩=some (.slice A' la cA)/\v.cell? ⟨b,o+i * 6+5,none⟩=some (.slice B lb cB):=by
 obtain ⟨b,o,k,a,s,n,A',la,cA,B,lb,cB,h1,h2,h3,e0,e1,e2,e3,e4,e5⟩:=h.at_ (Below.refl _ _) hy;exact ⟨b,o,k,a,s,n,A',la,cA,B,lb,cB,h1,h2,h3,fun v hv=>⟨(hv.cell h3).trans e0,(hv.cell h3).trans e1,(hv.cell h3).trans e2,(hv.cell h3).trans e3,(hv.cell h3).trans e4,(hv.cell h3).trans e5⟩⟩
theorem worthQ{w0:World}{q:Bool×Nat}{lo:Lo}{I:World->Prop}(hI:NuI q lo I):∀ (m:Nat) (z:Tz),SizeOf.sizeOf z < m->∀ (w:World) (k a:Int) (s:Bs) (n:Nat) (A:Option Addr) (la cA:Nat) (B:Option Addr) (lb cB:Nat),Below w0.heap.size w0 w->I w->TrV w0 z k a s n A la cA B lb cB->strB lo z=none ->
  Calls Tryz.prog 73 #[aO k a s n A la cA B lb cB,nvQ q] w (WoP w (aX lo z))
 | 0,z,h=>absurd h (Nat.not_lt_zero _)
 | m+1,.mk k1 a1 s1 n1 ps l,hm=>fun w k a s n A la cA B lb cB hb hM hT hst=>by
  obtain ⟨rfl,rfl,rfl,rfl,rfl,rfl,hP,hs,hn,-,-,-,-⟩:=hT.parts;obtain ⟨hfit,hsts⟩:=q83 hst;obtain ⟨w1,hw1,hb1,hX1,hs1⟩:=dw w (nB k a s n A l.length cA B ps.length cB);have hM1:=hI.mono hM hb1;have IH:=Hi (worthQ (w0:=w0) hI m);have HB1:=Hi hb1;have HW1:=Hi hw1;have HX1':=Hi hX1;have HM1:=Hi hM1;have HP:=Hi hP;have HB0:=Hi (hb.trans (hb1.mono hb.size));have HM:=Hi hm;obtain ⟨⟨e0,e1,e2,e3,e4,e5⟩,z0,z1,z2,z3,z4,z5⟩:=Aa.c6 hX1;have HN:=Hi (hI.run w1 hM1 s hs);obtain ⟨res,hres⟩:∃ res,aX lo (.mk k a s n ps l)=res:=⟨_,rfl⟩;rw [hres];rw [worB_mk] at hres;have Ad:=Hi hres;have hgl:=hX1.lt;have HSTS:=Hi hsts;have HN32:=Hi hn;clear hb hM hT hP hb1 hw1 hX1 hM1 hm hs1 hs hres hst hsts hn;by_cases hk1:k = 1
  ·subst hk1;have HR:=Hi (show (lo s).getD 0=res from V1P);unfold NumP loN at HN;rw [HR.out] at HN;clear Ad IH hfit HR;generalize (lo s).isSome=q1 at HN;obtain ⟨q,b⟩:=q;cases q
   case' false=>
    have hen:∀ w:World,(callFunc 149 #[.map (some b),.string ⟨s.toArray⟩]).run Tryz.prog w = .ok (.enter 149 #[.map (some b),.string ⟨s.toArray⟩]) w:=fun _=>V1
    have HN:=Hi (show Calls Tryz.prog 149 #[.map (some b),.string ⟨s.toArray⟩] w1 _ from HN.out);show Calls Tryz.prog 73 #[aO 1 a s n A l.length cA B ps.length cB,.func (.func 149) #[.map (some b)] #[]] w _
   case' true=>
    have hen:∀ w:World,(callFunc 70 #[.string ⟨s.toArray⟩,.pointer (some ⟨b,0,none⟩)]).run Tryz.prog w = .ok (.enter 70 #[.string ⟨s.toArray⟩,.pointer (some ⟨b,0,none⟩)]) w:=fun _=>V1
    have HN:=Hi (show Calls Tryz.prog 70 #[.string ⟨s.toArray⟩,.pointer (some ⟨b,0,none⟩)] w1 _ from HN.out);show Calls Tryz.prog 73 #[aO 1 a s n A l.length cA B ps.length cB,.func (.func 70) #[] #[.pointer (some ⟨b,0,none⟩)]] w _
   all_goals
    go_enter Tryz.func73,Tryz.ntmps73;go_upto_region 1 with fail
    rw [HW1.out];go_wp2_with fail
    refine HN.out.mono ?_;rintro e w5 ⟨rfl,hb5⟩;have HB5:=Hi (HB1.out.trans (hb5.mono HB1.out.size));clear hb5;go_wp2_with fail
    go_ret;exact ⟨rfl,HB5.out⟩
  go_enter Tryz.func73,Tryz.ntmps73;go_upto_region 1 with fail
  rw [HW1.out];by_cases hk0:k = 0
  ·subst hk0;have HR:=Hi (show BitVec.ofNat 32 n=res from V24);clear Ad HN IH hfit;go_wp2_with fail
   go_ret;refine ⟨?_,HB1.out⟩;have e:((res.toNat:Nat):Int)=(n:Int):=by rw [<-HR.out,BitVec.toNat_ofNat,Nat.mod_eq_of_lt HN32.out]
   show Ending.returned (.int .u32 (n:Int)) = .returned (.int .u32 (res.toNat:Int));rw [e]
  clear HN;by_cases hk2:k = 2
  ·subst hk2;have hl1:l.length = 1:=by
    unfold fitB at hfit;rw [if_neg V2,if_neg V2,if_pos rfl,Bool.and_eq_true] at hfit;exact of_decide_eq_true hfit.1
   obtain ⟨x,rfl⟩:∃ x,l=[x]:=by
    match l,hl1 with
    | [x],_=>exact ⟨x,rfl⟩
   obtain ⟨bb,o,k',a',s',n',A',la',bu,B',lb',bA,hA,hTy,hbl,hcel⟩:=HP.out.cells (i:=0) (y:=x) rfl;subst hA;simp only [Nat.zero_mul,Nat.add_zero] at hcel;have hsy:SizeOf.sizeOf x < m:=by have:=q0S (k:=2) (a:=a) (n:=n) (s:=s) (ps:=ps) (l:=[x]) (i:=0) (x:=x) rfl;have:=HM.out;omega
   have hst1:=(q2Y HSTS.out).1;have HCX:=Hi fun v (hv:Below w0.heap.size w0 v) (hMv:I v)=>IH.out x hsy v k' a' s' n' A' la' bu B' lb' bA hv hMv hTy hst1
   have HR:=Hi (show unB s (aX lo x)=res by rw [<-Ad.out,if_neg V2,if_neg V2,if_pos rfl,q5p]);generalize aX lo x=x2 at HCX HR;have HX0:=Hi hcel;have HLB:=Hi hbl;have HX1':=Hi (show Aa w1 w.heap.size 26 (nB 2 a s n (some ⟨bb,o,none⟩) 1 cA B ps.length cB) from HX1'.out);clear Ad hcel hTy hsy hfit IH hst1 hk1 hk0 hbl;go_wp2_with fail
   have hdr:Below w1.heap.size w1 w1.drew:=Below.drew (Below.refl _ _);obtain ⟨wd,hwd⟩:∃ v,w1.drew=v:=⟨_,rfl⟩;rw [hwd] at hdr;have HXd:=Hi (HX1'.out.below hdr HX1'.out.lt);have HBd:=Hi (HB1.out.trans (hdr.mono HB1.out.size));have HB0d:=Hi (HB0.out.trans (hdr.mono HB0.out.size));have HMd:=Hi (hI.mono HM1.out hdr);clear hdr e0 e1 e2 e3 e4 e5 z0 z1 z2 z3 z4 z5 hgl;have aa:Below wd.heap.size wd wd:=Below.refl _ _;refine HT.wp_region (Z:=fun w'=>Below wd.heap.size wd w') (S:=fun _=>True) (st:=[]) V1 ?_;rw [hwd];clear hwd;refine HT.k 0 rfl Vt aa ?_;refine HT.k 1 rfl Vt aa ?_;refine HT.k 2 rfl Vt aa ?_;refine HT.k 3 rfl Vt aa ?_;refine HT.m 4 aa ?_;refine HT.k 5 rfl V2V aa ?_;refine HT.m 6 aa ?_;refine HT.one (i:=7) V1 rfl (fun K hK=>?_);go_simp;refine (show Calls Tryz.prog 73 #[aO k' a' s' n' A' la' bu B' lb' bA,nvQ q] wd _ from HCX.out wd HB0d.out HMd.out).mono ?_;rintro e w5 ⟨rfl,hb5⟩;(try dsimp only);refine hK.out _ _ hb5 trivial ?_;clear hK K;(try simp only [HT.pS]);refine HT.one (i:=8) V1 rfl (fun K hK=>?_);go_simp;refine (alone w5 s x2).mono ?_;rintro e w7 ⟨rfl,bO⟩;have hz7:=hb5.trans (bO.mono hb5.size);rw [HR.out];(try dsimp only);refine hK.out _ _ hz7 trivial ?_;clear hK K;(try simp only [HT.pS]);refine HT.m 9 hz7 ?_;refine HT.done V1 ?_;have Ac:=Hi (HBd.out.trans (hz7.mono HBd.out.size));clear aa hb5 hz7 bO;go_wp2_with fail
   go_ret;exact Vl
  have hk34:k = 3\/k = 4:=by
   by_cases h3:k = 3
   ·exact .inl h3
   by_cases h4:k = 4
   ·exact .inr h4
   exfalso;unfold fitB at hfit;rw [if_neg hk0,if_neg hk1,if_neg hk2,if_neg h3,if_neg h4] at hfit;cases hfit
  have hl2:l.length = 2:=by
   unfold fitB at hfit;rw [if_neg hk0,if_neg hk1,if_neg hk2] at hfit;rcases hk34 with rfl | rfl
   ·rw [if_pos rfl,Bool.and_eq_true] at hfit;exact of_decide_eq_true hfit.1
   ·rw [if_neg V2,if_pos rfl,Bool.and_eq_true] at hfit;exact of_decide_eq_true hfit.1
  obtain ⟨x,y,rfl⟩:∃ x y,l=[x,y]:=by
   match l,hl2 with
   | [x,y],_=>exact ⟨x,y,rfl⟩
  obtain ⟨bb,o,k',a',s',n',A',la',bu,B',lb',bA,hA,hTy,hbl,hcel⟩:=HP.out.cells (i:=0) (y:=x) rfl;subst hA;simp only [Nat.zero_mul,Nat.add_zero] at hcel;obtain ⟨bb2,o2,k2,a2,s2,n2,A2,la2,cA2,B2,lb2,cB2,hA2,hTy2,hbl2,hcel2⟩:=HP.out.cells (i:=1) (y:=y) rfl;simp only [Option.some.injEq,Addr.mk.injEq,and_true] at hA2;obtain ⟨rfl,rfl⟩:=hA2;simp only [Nat.one_mul,Nat.add_assoc,Nat.reduceAdd] at hcel2;obtain ⟨hst1,hst2⟩:=q2Y HSTS.out;have hsy:SizeOf.sizeOf x < m:=by have:=q0S (k:=k) (a:=a) (n:=n) (s:=s) (ps:=ps) (l:=[x,y]) (i:=0) (x:=x) rfl;have:=HM.out;omega
  have hsy2:SizeOf.sizeOf y < m:=by have:=q0S (k:=k) (a:=a) (n:=n) (s:=s) (ps:=ps) (l:=[x,y]) (i:=1) (x:=y) rfl;have:=HM.out;omega
  have HCX:=Hi fun v (hv:Below w0.heap.size w0 v) (hMv:I v)=>IH.out x hsy v k' a' s' n' A' la' bu B' lb' bA hv hMv hTy hst1
  have HCY:=Hi fun v (hv:Below w0.heap.size w0 v) (hMv:I v)=>IH.out y hsy2 v k2 a2 s2 n2 A2 la2 cA2 B2 lb2 cB2 hv hMv hTy2 (q2Y hst2).1
  rcases hk34 with rfl | rfl
  case' inl=>
   have HR:=Hi (show boB s (aX lo x) (aX lo y)=res by rw [<-Ad.out,if_neg V2,if_neg V2,if_neg V2,if_pos rfl,q5p,q8K]);have HJ:=Hi fun w x y=>both w s x y
  case' inr=>
   have HR:=Hi (show shB s (aX lo x) (aX lo y)=res by rw [<-Ad.out,if_neg V2,if_neg V2,if_neg V2,if_neg V2,q5p,q8K]);have HJ:=Hi fun w x y=>shifted w s x y
  all_goals
   generalize aX lo x=x2 at HCX HR;generalize aX lo y=y2 at HCY HR;have HX0:=Hi hcel;have AP:=Hi hcel2;have HLB:=Hi hbl;have HX1':=Hi (show Aa w1 w.heap.size 26 (nB _ a s n (some ⟨bb,o,none⟩) 2 cA B ps.length cB) from HX1'.out);clear Ad hcel hcel2 hTy hTy2 hsy hsy2 hfit IH hst1 hst2 hk0 hk1 hk2 hbl hbl2 hl2;go_wp2_with fail
   have hdr:Below w1.heap.size w1 w1.drew:=Below.drew (Below.refl _ _);obtain ⟨wd,hwd⟩:∃ v,w1.drew=v:=⟨_,rfl⟩;rw [hwd] at hdr;have HXd:=Hi (HX1'.out.below hdr HX1'.out.lt);have HBd:=Hi (HB1.out.trans (hdr.mono HB1.out.size));have HB0d:=Hi (HB0.out.trans (hdr.mono HB0.out.size));have HMd:=Hi (hI.mono HM1.out hdr);clear hdr e0 e1 e2 e3 e4 e5 z0 z1 z2 z3 z4 z5 hgl;have aa:Below wd.heap.size wd wd:=Below.refl _ _;refine HT.wp_region (Z:=fun w'=>Below wd.heap.size wd w') (S:=fun _=>True) (st:=[]) V1 ?_;rw [hwd];clear hwd;refine HT.k 0 rfl Vt aa ?_;refine HT.k 1 rfl Vt aa ?_;refine HT.k 2 rfl Vt aa ?_;refine HT.k 3 rfl Vt aa ?_;refine HT.m 4 aa ?_;refine HT.k 5 rfl V2V aa ?_;refine HT.m 6 aa ?_;refine HT.k 8 rfl Vt aa ?_;refine HT.k 9 rfl Vt aa ?_;refine HT.m 10 aa ?_;refine HT.k 11 rfl (by intro v hSw;have hbv:=HB0d.out.trans (hSw.mono HB0d.out.size);obtain ⟨g0,g1,g2,g3,g4,g5⟩:=AP.out v hbv;have hgb:=Nat.lt_of_lt_of_le HLB.out hbv.size;clear hSw hbv;go_simp;try with_reducible rfl) aa ?_;refine HT.m 12 aa ?_;refine HT.one (i:=7) V1 rfl (fun K hK=>?_);go_simp;refine (show Calls Tryz.prog 73 #[aO k' a' s' n' A' la' bu B' lb' bA,nvQ q] wd _ from HCX.out wd HB0d.out HMd.out).mono ?_;rintro e w5 ⟨rfl,hb5⟩;(try dsimp only);refine hK.out _ _ hb5 trivial ?_;clear hK K;(try simp only [HT.pS]);refine HT.one (i:=13) V1 rfl (fun K hK=>?_);go_simp;refine (show Calls Tryz.prog 73 #[aO k2 a2 s2 n2 A2 la2 cA2 B2 lb2 cB2,nvQ q] w5 _ from HCY.out w5 (HB0d.out.trans (hb5.mono HB0d.out.size)) (hI.mono HMd.out hb5)).mono ?_;rintro e w6 ⟨rfl,hb6⟩;have di:=hb5.trans (hb6.mono hb5.size);(try dsimp only);refine hK.out _ _ di trivial ?_;clear hK K;(try simp only [HT.pS]);refine HT.one (i:=14) V1 rfl (fun K hK=>?_);go_simp;refine (HJ.out w6 x2 y2).mono ?_;rintro e w7 ⟨rfl,bO⟩;have hz7:=di.trans (bO.mono di.size);rw [HR.out];(try dsimp only);refine hK.out _ _ hz7 trivial ?_;clear hK K;(try simp only [HT.pS]);refine HT.m 15 hz7 ?_;refine HT.done V1 ?_;have Ac:=Hi (HBd.out.trans (hz7.mono HBd.out.size));clear aa hb5 hz7 bO di hb6;go_wp2_with fail
   go_ret;exact ⟨rfl,Ac.out⟩
theorem worth{w0:World}{b q:Nat}{kn:Kw}(m:Nat)(z:Tz)(h:SizeOf.sizeOf z < m)(w:World)(k a:Int)(s:Bs)(n:Nat)(A:Option Addr)(la cA:Nat)(B:Option Addr)(lb cB:Nat)(hb:Below w0.heap.size w0 w)(hM:MpW w b q kn)(hT:TrV w0 z k a s n A la cA B lb cB)(hst:strB (bL kn) z=none) :
  Calls Tryz.prog 73 #[aO k a s n A la cA B lb cB,nuV b] w (WoP w (aX (bL kn) z)):=worthQ (mpI b q kn) m z h w k a s n A la cA B lb cB hb hM hT hst
end Fl
namespace Fl
open Go Go.ChangeShapes Go.WideShapes Go.ChangeAt Go.RowKit Lx Args Pa Sh Go.Proofs.YtcgibpdjfgjldaaGreatDoor.Nm
section
def MuP(w:World)(kn:Kw)(o:Option (Int×Int×Bs))(e:Ending)(w':World):Prop:=
 match o with
 | none=>e = .returned (.tuple #[])/\Below w.heap.size w w'
 | some x=>e=panF x.2.1 (badB kn x)/\Below w.heap.size w w'
theorem fFa0(a b:Bool)(n:Int)(w:World):(Instr.field 180 (.agg #[.bool a,.bool b,.int .u32 n]) 0).run Tryz.prog w = .ok (.bool a) w:=V1
attribute [local go_sem] fFa0
theorem mustBe{w0:World}{b q:Nat}{kn:Kw}(w:World)(z:Tz)(k a:Int)(s:Bs)(n:Nat)(A:Option Addr)(la cA:Nat)(B:Option Addr)(lb cB:Nat)(hb:Below w0.heap.size w0 w)(hM:MpW w b q kn)(hT:TrV w0 z k a s n A la cA B lb cB) :
  Calls Tryz.prog 148 #[aO k a s n A la cA B lb cB,.map (some b)] w (MuP w kn (strB (bL kn) z)):=by
 obtain ⟨w1,hw1,hb1,hX1,hs1⟩:=dw w (nB k a s n A la cA B lb cB);have hM1:=hM.upd (Upd.of_below hb1 fun _=>False) id;have HC:=Hi (stray (w0:=w0) (b:=b) (q:=q) (kn:=kn) (SizeOf.sizeOf z+1) z (Nat.lt_succ_self _) w1 k a s n A la cA B lb cB (hb.trans (hb1.mono hb.size)) hM1 hT);have HB1:=Hi hb1;have HW1:=Hi hw1;have HM1:=Hi hM1;have hmf:∀ (fn:Fn) (first cap:Array Value) (w:World),(Instr.makeFunc fn first cap).run Tryz.prog w = .ok (.func fn first cap) w:=fun _ _ _ _=>rfl
 obtain ⟨⟨e0,e1,e2,e3,e4,e5⟩,z0,z1,z2,z3,z4,z5⟩:=Aa.c6 hX1;obtain ⟨res,hres⟩:∃ res,strB (bL kn) z=res:=⟨_,rfl⟩;rw [hres] at HC ⊢;clear hb hM hT hw1 hb1 hX1 hs1 hM1 hres;go_enter Tryz.func148,Tryz.ntmps148;go_wp2_with fail
 rw [HW1.out];refine (show Calls Tryz.prog 72 #[aO k a s n A la cA B lb cB,nuV b] w1 _ from HC.out).mono ?_;intro e w2 h2;clear e0 e1 e2 e3 e4 e5 z0 z1 z2 z3 z4 z5;cases res with
 | none=>
  obtain ⟨rfl,hb2⟩:=h2;obtain ⟨w3,hw3,hb3,hX3,hs3⟩:=dw w2 #[.int .i64 0,.string ⟨#[]⟩,.int .u32 0,.int .i64 0,.slice none 0 0,.slice none 0 0];have HB3:=Hi (HB1.out.trans ((hb2.trans (hb3.mono hb2.size)).mono HB1.out.size));have HW3:=Hi hw3;clear hb2 hw3 hb3 hX3 hs3;go_upto_region 2 with fail
  rw [HW3.out];go_wp2_with fail
  first | go_end0 | skip
  all_goals first | exact ⟨rfl,HB3.out⟩ | exact bodyPost_ret (results_none rfl _ _ _) rfl ⟨rfl,HB3.out⟩
 | some x=>
  obtain ⟨k2,a2,s2⟩:=x;obtain ⟨hs2,⟨n2,A2,la2,cA2,B2,lb2,cB2,rfl⟩,hb2⟩:=h2;obtain ⟨w3,hw3,hb3,hX3,hs3⟩:=dw w2 (nB k2 a2 s2 n2 A2 la2 cA2 B2 lb2 cB2);have hb13:=hb2.trans (hb3.mono hb2.size);have HB3:=Hi (HB1.out.trans (hb13.mono HB1.out.size));have HW3:=Hi hw3;have hrun:=q2X (HM1.out.upd (Upd.of_below hb13 fun _=>False) id) hs2;unfold wkV at hrun;rw [q3G] at hrun;obtain ⟨⟨e0,e1,e2,e3,e4,e5⟩,z0,z1,z2,z3,z4,z5⟩:=Aa.c6 hX3;obtain ⟨er,her⟩:∃ er,badB kn (k2,a2,s2)=er:=⟨_,rfl⟩;have hbad:(if k2 = 1/\secB kn s2=true then 130 else 120)=er:=her;have HER:=Hi her;have HBAD:=Hi hbad;clear hb2 hw3 hb3 hX3 hs3 hb13 her hbad;generalize (wkAt kn s2).aN.isSome=l1 at hrun;generalize loN (wkAt kn s2).aN=l2 at hrun;generalize secB kn s2=sc at hrun HBAD;by_cases hk1:k2 = 1
  ·subst hk1;cases sc with
   | true=>
    have HE2:=Hi (show 130=er from HBAD.out);go_upto_region 2 with fail
    rw [HW3.out];go_wp2_with fail
    exact ⟨rfl,by show panF a2 130=panF a2 (badB kn (1,a2,s2));rw [HER.out,HE2.out],HB3.out⟩
   | false=>
    have HE2:=Hi (show 120=er from HBAD.out);go_upto_region 2 with fail
    rw [HW3.out];go_wp2_with fail
    exact ⟨rfl,by show panF a2 120=panF a2 (badB kn (1,a2,s2));rw [HER.out,HE2.out],HB3.out⟩
  ·have hi:(k2==1)=false:=by simpa using hk1
   have HE2:=Hi (show 120=er by rw [<-HBAD.out,if_neg (fun h=>hk1 h.1)]);clear hk1 hrun;go_upto_region 2 with fail
   rw [HW3.out];go_wp2_with fail
   exact ⟨rfl,by show panF a2 120=panF a2 (badB kn (k2,a2,s2));rw [HER.out,HE2.out],HB3.out⟩
end
end Fl
end Go.Proofs.YtcgibpdjfgjldaaGreatDoor
