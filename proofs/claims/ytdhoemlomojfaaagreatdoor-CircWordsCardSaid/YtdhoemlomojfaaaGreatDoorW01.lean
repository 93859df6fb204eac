/- DERIVED. Hi, Args, Math, Word, Walks, Shift, Shift2, CoShP. By an AI agent. -/
import Derived.Lib.Hide
import Derived.ProofKit
import Derived.OpenShut
import Derived.Below
import Derived.SizedLaws
import Derived.WideShapes
import Derived.ChangeSame
import Derived.Laws.OwnMore
import Derived.Deep.Draws
import Derived.Laws.BitsLemmas
import Derived.Laws.Bits64b
import Derived.Test.YtdhoemlomojfaaaGreatDoorRows
import Derived.WalkKit
import Derived.RegionTactic
import Derived.Deep.QuietTactic
import Derived.BigQuiet
import Derived.Outline
set_option maxHeartbeats 400000
set_option linter.unusedVariables false
set_option linter.unusedSimpArgs false
namespace Go.Proofs.YtdhoemlomojfaaaGreatDoor
theorem Hi {p : Prop} (h : p) : Go.RowKit.Hid p := h
end Go.Proofs.YtdhoemlomojfaaaGreatDoor
namespace Go.Proofs.YtdhoemlomojfaaaGreatDoor.Args
open Go Go.ChangeShapes Go.WideShapes Go.ChangeAt Go.RowKit
theorem add0(a:Addr):a.add 0=a:=by simp [Addr.add]
theorem add_add(a:Addr)(i j:Nat):(a.add i).add j=a.add (i+j):=by
 unfold Addr.add;by_cases hi:i = 0 <;> by_cases hj:j = 0 <;> simp [hi,hj,Nat.add_assoc]
def Lies(w:World)(A:Option Addr)(xs:List Value):Prop:=∀ j u,xs[j]?=some u→∃ a,A=some a∧w.cell? (a.add j)=some u
theorem Lies.nil(w:World)(A:Option Addr):Lies w A []:=fun j u h=>by simp at h
theorem Lies.below{w w':World}{A:Option Addr}{xs:List Value}(h:Lies w A xs)(hb:Below w.heap.size w w'):Lies w' A xs:=fun j u hj=>by
 obtain ⟨a,ha,hc⟩:=h j u hj;exact ⟨a,ha,by rw [hb.cell (World.block_lt_of_cell? w _ hc)];exact hc⟩
theorem Lies.kept{w w':World}{A:Option Addr}{xs:List Value}(h:Lies w A xs){B:Nat}(hB:B≤w.heap.size)(hb:Below B w w')(hA:∀ j u a,xs[j]?=some u→A=some a→(a.add j).block < B):Lies w' A xs:=fun j u hj=>by
 obtain ⟨a,ha,hc⟩:=h j u hj;exact ⟨a,ha,by rw [hb.cell (hA j u a hj ha)];exact hc⟩
theorem Lies.drewN{w:World}{A:Option Addr}{xs:List Value}(h:Lies w A xs)(n:Nat):Lies (w.drewN n) A xs:=h
theorem add_plain(b o j:Nat):(⟨b,o,none⟩:Addr).add j=⟨b,o+j,none⟩:=by unfold Addr.add;split <;> simp_all
theorem Lies.at_{w:World}{A:Option Addr}{xs:List Value}(h:Lies w A xs){j:Nat}{u:Value}(hj:xs[j]?=some u):∃ b o,A=some ⟨b,o,none⟩∧b < w.heap.size∧∀ i v,xs[i]?=some v→w.cell? ⟨b,o+i,none⟩=some v:=by
 have h0:0 < xs.length:=by have:=(List.getElem?_eq_some_iff.1 hj).1;omega
 obtain ⟨a,rfl,hc⟩:=h 0 _ (List.getElem?_eq_getElem h0);rw [add0] at hc;obtain ⟨b,o,sp⟩:=a;have hsp:sp=none:=by simpa using World.cell?_spot hc
 subst hsp;refine ⟨b,o,rfl,World.block_lt_of_cell? w _ hc,fun i v hi=>?_⟩;obtain ⟨a',e,hc'⟩:=h i v hi;obtain rfl:=Option.some.inj e;rw [add_plain] at hc';exact hc'
structure TI where
 s:ByteArray
 n:Int
def TI.cells(c:TI):List Value:=[.string c.s,.int .i64 c.n]
structure TIs(w:World)(v:Value)(l:List TI):Prop where
 ex:∃ A cap,v = .slice A l.length cap∧l.length≤cap∧cap≤maxLen∧Lies w A (l.flatMap TI.cells)
 wf:∀ c∈l,(Lit.int .i64 c.n).wf=true
 size:∀ c∈l,c.s.size≤140737488351232
 reach:l.length * 24≤140737488351232
section
variable {H : Type} {enc : TypeId × Value → H} {P : Program} {w : World} {base : Nat} {spare : Nat → Bool} {held : Bool} {fuel : Nat}
theorem all_weights{t:TypeId}{ts:List TypeId}{d:DataW H}{ds:List (DataW H)}(h:(DataW.weightsEach P (t :: ts) (d :: ds)).all (·≤reachBytes)=true) :
  (d.weights P t).all (·≤reachBytes)=true∧(DataW.weightsEach P ts ds).all (·≤reachBytes)=true:=by
 simp only [DataW.weightsEach,List.all_append,Bool.and_eq_true] at h;exact h
theorem all_weightsAll{e:TypeId}:∀ {ds:List (DataW H)} {d:DataW H},(DataW.weightsAll P e ds).all (·≤reachBytes)=true→d∈ds→(d.weights P e).all (·≤reachBytes)=true
 | [],_,_,hd=>by cases hd
 | x :: r,d,h,hd=>by
  simp only [DataW.weightsAll,List.all_append,Bool.and_eq_true] at h;rcases List.mem_cons.1 hd with rfl | hd
  ·exact h.1
  ·exact all_weightsAll h.2 hd
theorem flat2(l:List TI)(i:Nat)(c:TI)(h:l[i]?=some c):(l.flatMap TI.cells)[i * 2]?=some (.string c.s)∧(l.flatMap TI.cells)[i * 2+1]?=some (.int .i64 c.n):=by
 induction l generalizing i with
 | nil=>simp at h
 | cons d l ih=>
  cases i with
  | zero=>simp at h;subst h;exact ⟨rfl,rfl⟩
  | succ i=>
   simp at h;obtain ⟨h1,h2⟩:=ih i h;rw [List.flatMap_cons,show (i+1) * 2=i * 2+1+1 by omega];simp only [TI.cells,List.cons_append,List.nil_append,List.getElem?_cons_succ];exact ⟨h1,h2⟩
theorem flat2_in(l:List TI)(j:Nat)(u:Value)(h:(l.flatMap TI.cells)[j]?=some u):∃ i c,l[i]?=some c∧(j=i * 2∧u = .string c.s∨j=i * 2+1∧u = .int .i64 c.n):=by
 have hj:j < (l.flatMap TI.cells).length:=(List.getElem?_eq_some_iff.1 h).1;have hl:(l.flatMap TI.cells).length=l.length * 2:=by
  clear h hj
  induction l with
  | nil=>rfl
  | cons d l ih=>rw [List.flatMap_cons,List.length_append,ih];simp [TI.cells];omega
 have hi:j / 2 < l.length:=by omega
 have hc:l[j / 2]?=some (l[j / 2]'hi):=List.getElem?_eq_getElem hi;obtain ⟨h1,h2⟩:=flat2 l (j / 2) _ hc;refine ⟨j / 2,_,hc,?_⟩;rcases Nat.mod_two_eq_zero_or_one j with hm | hm
 ·left;have e:j=j / 2 * 2:=by omega
  rw [←e,h] at h1;exact ⟨e,Option.some.inj h1⟩
 ·right;have e:j=j / 2 * 2+1:=by omega
  rw [←e,h] at h2;exact ⟨e,Option.some.inj h2⟩
theorem tis_of{t e ts ti:TypeId}{cs:List Value}{x:DataW H×List MemPlace}{f0 f1:Field}(ht:P.underlying t=some (.slice e))(he:P.underlying e=some (.struct #[f0,f1]))(hc:P.cellsOf e = 2)(hb:P.bytesOf e = 24)
  (hf:f0.type=ts∧f0.offset = 0∧f1.type=ti∧f1.offset = 1) (hts:P.underlying ts=some .string) (hti:P.underlying ti=some (.int .i64)) (cts:P.cellsOf ts = 1) (cti:P.cellsOf ti = 1)
  (h:DataW.trod enc P w base spare held fuel t cs=some x) (hs:(x.1.weights P t).all (·≤reachBytes)=true):∃ v l,cs=[v]∧TIs w v l:=by
 rcases DataW.trod_slice ht h with ⟨rfl,_⟩ | ⟨a,len,cap,elems,rest,n,_,rfl,rfl,hbl,hl,hm,hlen,hel,hsp,hns⟩
 ·exact ⟨_,[],rfl,⟨⟨none,0,rfl,Nat.le_refl _,by decide,Lies.nil _ _⟩,(fun z hz=>by cases hz),(fun z hz=>by cases hz),by simp⟩⟩
 ·simp only [DataW.weights,ht,List.all_cons,Bool.and_eq_true,decide_eq_true_eq,List.all_append] at hs;have each:∀ i,i < len→∃ c:TI,w.cell? (a.add (i * 2))=some (.string c.s)∧w.cell? (a.add (i * 2+1))=some (.int .i64 c.n)∧(Lit.int .i64 c.n).wf=true∧c.s.size≤140737488351232:=fun i hi=>by
   have h1:=hel i hi;rw [hc] at h1;have hei:elems[i]?=some (elems[i]'(by omega)):=List.getElem?_eq_getElem (by omega);rw [hei,Option.bind_eq_some_iff] at h1;obtain ⟨c1,hc1,ht1⟩:=h1;obtain ⟨hcb,hcl,hat⟩:=World.cells?_some hc1;obtain ⟨ys,m,_,hx,_,hyl,hg⟩:=DataW.trod_struct he ht1;have g0:=hg 0 f0 rfl;have g1:=hg 1 f1 rfl;rw [hf.1,hf.2.1,cts] at g0;rw [hf.2.2.1,hf.2.2.2,cti] at g1
   match c1,hcl,ys,hyl with
   | [x0,x1],_,[y0,y1],_=>
    simp at g0 g1;obtain ⟨s,e0,d0,_⟩:=DataW.trod_string hts g0;obtain ⟨z,e1,d1,wz⟩:=DataW.trod_int hti g1;simp at e0 e1;subst e0 e1;have a0:=hat 0 (by omega);have a1:=hat 1 (by omega);rw [add0] at a0;rw [add_add] at a1;refine ⟨⟨s,z⟩,a0,a1,wz,?_⟩;have hwt:=all_weightsAll hs.2.1 (List.mem_map_of_mem (f:=fun y:DataW H×List MemPlace=>y.1) (List.getElem_mem (show i < elems.length by omega)));rw [hx] at hwt;simp only [DataW.weights,he,DataW.weightsEach,List.map_cons,List.map_nil,List.all_append,Bool.and_eq_true] at hwt;rw [d0] at hwt;simp only [DataW.weights,List.all_cons,List.all_nil,Bool.and_true,decide_eq_true_eq] at hwt;have h1:=hwt.1;unfold reachBytes at h1;simp at h1;exact h1
  let l:List TI:=(List.range len).map fun i=>if hi:i < len then (each i hi).choose else ⟨⟨#[]⟩,0⟩
  have hzl:l.length=len:=by simp [l]
  have hzi:∀ i c,l[i]?=some c→w.cell? (a.add (i * 2))=some (.string c.s)∧w.cell? (a.add (i * 2+1))=some (.int .i64 c.n)∧(Lit.int .i64 c.n).wf=true∧c.s.size≤140737488351232:=fun i c hz=>by
   have hi:i < len:=by rw [←hzl];exact (List.getElem?_eq_some_iff.1 hz).1
   have:c=(each i hi).choose:=by
    simp only [l,List.getElem?_map,List.getElem?_range hi,Option.map_some,Option.some.injEq,dif_pos hi] at hz;exact hz.symm
   rw [this];exact (each i hi).choose_spec
  refine ⟨_,l,rfl,⟨⟨some a,cap,by rw [hzl],by omega,hm,fun j u hj=>?_⟩,fun c hz=>?_,fun c hz=>?_,?_⟩⟩
  ·obtain ⟨i,c,hi,hju⟩:=flat2_in l j u hj;rcases hju with ⟨rfl,rfl⟩ | ⟨rfl,rfl⟩
   ·exact ⟨a,rfl,(hzi i c hi).1⟩
   ·exact ⟨a,rfl,(hzi i c hi).2.1⟩
  ·obtain ⟨i,hi⟩:=List.getElem?_of_mem hz;exact (hzi i c hi).2.2.1
  ·obtain ⟨i,hi⟩:=List.getElem?_of_mem hz;exact (hzi i c hi).2.2.2
  ·rw [hzl];have h1:=hs.1;simp only [List.length_map] at h1;rw [hb,hlen] at h1;unfold reachBytes at h1;omega
end
end Go.Proofs.YtdhoemlomojfaaaGreatDoor.Args
namespace Go.Proofs.YtdhoemlomojfaaaGreatDoor.WMath
open Go
theorem ofInt_toNat(x:BitVec 32):BitVec.ofInt 32 (x.toNat:Int)=x:=by
 rw [BitVec.ofInt_natCast,BitVec.ofNat_toNat];simp
theorem wrapU32(x:BitVec 32):IntKind.u32.wrap (x.toNat:Int)=(x.toNat:Int):=by
 rw [IntKind.wrap_u32];have:=x.isLt;omega
theorem b_and(x y:BitVec 32):bits .and .u32 (x.toNat:Int) (y.toNat:Int)=((x &&& y).toNat:Int):=by
 show IntKind.u32.wrap ((BitVec.ofInt 32 (x.toNat:Int) &&& BitVec.ofInt 32 (y.toNat:Int)).toNat:Int)=_;rw [ofInt_toNat,ofInt_toNat,wrapU32]
theorem b_or(x y:BitVec 32):bits .or .u32 (x.toNat:Int) (y.toNat:Int)=((x ||| y).toNat:Int):=by
 show IntKind.u32.wrap ((BitVec.ofInt 32 (x.toNat:Int) ||| BitVec.ofInt 32 (y.toNat:Int)).toNat:Int)=_;rw [ofInt_toNat,ofInt_toNat,wrapU32]
theorem b_xor(x y:BitVec 32):bits .xor .u32 (x.toNat:Int) (y.toNat:Int)=((x ^^^ y).toNat:Int):=by
 show IntKind.u32.wrap ((BitVec.ofInt 32 (x.toNat:Int) ^^^ BitVec.ofInt 32 (y.toNat:Int)).toNat:Int)=_;rw [ofInt_toNat,ofInt_toNat,wrapU32]
theorem top(x:BitVec 32):(((x.toNat:Int) / 2147483648)==1)=x.msb:=by
 rw [BitVec.msb_eq_decide,Bool.eq_iff_iff];have:=x.isLt;simp;omega
def cin(c:Bool):BitVec 32:=if c then 1 else 0
def sum(a b:BitVec 32)(c:Bool):BitVec 32:=a+b+cin c
def over(a b:BitVec 32)(c:Bool):Bool:=(a.msb ^^ (sum a b c).msb) && (b.msb ^^ (sum a b c).msb)
end Go.Proofs.YtdhoemlomojfaaaGreatDoor.WMath
namespace Go.Proofs.YtdhoemlomojfaaaGreatDoor.Word
open Go.ChangeShapes Go.WideShapes Go.ChangeAt Go.RowKit WMath
abbrev u(x:BitVec 32):Value:=.int .u32 (x.toNat:Int)
theorem bd(x:BitVec 32):(x.toNat:Int) < 4294967296:=by have:=x.isLt;omega
theorem highest(a:BitVec 32)(w:World):Calls Tryz.prog 66 #[u a] w fun e w'=>e = .returned (.bool a.msb)∧w=w':=by
 have h2:=bd a;go_enter Tryz.func66,Tryz.ntmps66
 go_wp2
 go_ret;refine ⟨?_,rfl⟩;show Ending.returned (.bool ((a.toNat:Int) / 2147483648==1))=_;rw [top]
end Go.Proofs.YtdhoemlomojfaaaGreatDoor.Word
namespace Go.Proofs.YtdhoemlomojfaaaGreatDoor
open Go.ChangeShapes Go.WideShapes Go.ChangeAt Go.RowKit WMath Word
theorem b_not(x:BitVec 32):bits .xor .u32 4294967295 (x.toNat:Int)=((~~~x).toNat:Int):=by
 have h:=b_xor 4294967295#32 x;rw [show ((4294967295#32).toNat:Int) = 4294967295 from rfl] at h;rw [h]
 congr 2
theorem un_not(x:BitVec 32):Op.unary .xor (.int .u32 (x.toNat:Int))=pure (Value.int .u32 ((~~~x).toNat:Int)):=by
 show pure (Value.int .u32 (bits .xor .u32 4294967295 (x.toNat:Int)))=_;rw [b_not]
end Go.Proofs.YtdhoemlomojfaaaGreatDoor
namespace Go.Proofs.YtdhoemlomojfaaaGreatDoor.Word
open Go.ChangeShapes Go.WideShapes Go.ChangeAt Go.RowKit WMath
theorem and31(k:Int)(s:Nat)(hs:s < 32)(hk:k=s∨k=(s:Int) - 32):bits BinOp.and IntKind.u64 (IntKind.u64.wrap k) 31=(s:Int):=by
 have e:∃ m:Nat,IntKind.u64.wrap k=(m:Int)∧m < 18446744073709551616∧m % 32=s:=by
  rw [IntKind.wrap_u64];refine ⟨(k % 18446744073709551616).toNat,by omega,by omega,?_⟩;rcases hk with rfl | rfl <;> omega
 obtain ⟨m,hm,h1,h2⟩:=e;rw [hm,show (31:Int)=((31:Nat):Int) from rfl,bits_and_u64_nat m 31 h1 (by omega),←h2]
 congr 1
 exact Nat.and_two_pow_sub_one_eq_mod m 5
theorem shl_int(a:BitVec 32)(s:Nat):(a.toNat:Int) * 2 ^ s % 4294967296=((a <<< s).toNat:Int):=by
 rw [BitVec.toNat_shiftLeft,Nat.shiftLeft_eq,Int.natCast_emod,Int.natCast_mul,Int.natCast_pow];rfl
theorem shr_int(a:BitVec 32)(s:Nat):(a.toNat:Int) / 2 ^ s=((a >>> s).toNat:Int):=by
 rw [BitVec.toNat_ushiftRight,Nat.shiftRight_eq_div_pow,Int.natCast_ediv,Int.natCast_pow];rfl
theorem rotl_or(a:BitVec 32)(s:Nat)(hs:s < 32):(a <<< s) ||| (a >>> (32 - s))=a.rotateLeft s:=by
 rw [BitVec.rotateLeft_def,Nat.mod_eq_of_lt hs]
theorem rotl(a:BitVec 32)(k:Int)(s:Nat)(hs:s < 32)(hk:k=s∨k=(s:Int) - 32)(w:World) :
  Calls Tryz.prog 53 #[u a,.int .i64 k] w fun e w'=>e = .returned (u (a.rotateLeft s))∧w=w':=by
 have h2:=bd a;have hb:=and31 k s hs hk;clear hk;go_enter Tryz.func53,Tryz.ntmps53
 go_wp2
 go_ret;refine ⟨?_,rfl⟩;show Ending.returned (.int .u32 (bits BinOp.or IntKind.u32 ((a.toNat:Int) * 2 ^ s % 4294967296) ((a.toNat:Int) / 2 ^ (32 - s))))=_;rw [shl_int,shr_int,b_or,rotl_or a s hs]
theorem rot(a:BitVec 32)(n:Nat)(hn:n < 4294967296)(w:World) :
  Calls Tryz.prog 45 #[u a,.int .u32 n] w fun e w'=>e = .returned (u (a.rotateLeft n))∧w=w':=by
 go_enter Tryz.func45,Tryz.ntmps45;go_wp2_with fail
 refine (rotl a _ (n % 32) (by omega) (by left;omega) _).mono ?_;rintro e w' ⟨rfl,rfl⟩
 go_wp2
 go_ret;exact ⟨rfl,rfl⟩
theorem bit1(m:Nat)(hm:m < 18446744073709551616):(bits BinOp.and IntKind.u64 (m:Int) 1==1)=decide (m % 2 = 1):=by
 rw [show (1:Int)=((1:Nat):Int) from rfl,bits_and_u64_nat m 1 hm (by omega),Nat.and_one_is_mod,Bool.eq_iff_iff];simp;omega
theorem left(a:BitVec 32)(n:Nat)(hn:n < 4294967296)(w:World) :
  Calls Tryz.prog 63 #[u a,.int .u32 n] w fun e w'=>e = .returned (.tuple #[u (a <<< n),.bool (decide (a.toNat * 2 ^ n / 4294967296 % 2 = 1))])∧w=w':=by
 have h2:=bd a;go_enter Tryz.func63,Tryz.ntmps63
 go_wp2
 go_ret2
 refine ⟨?_,rfl⟩;have e1:IntKind.u64.wrap ((a.toNat:Int) * 2 ^ min n 64)=((a.toNat * 2 ^ min n 64 % 18446744073709551616:Nat):Int):=by rw [IntKind.wrap_u64,Int.natCast_emod,Int.natCast_mul,Int.natCast_pow];rfl
 show Ending.returned (.tuple #[.int .u32 (IntKind.u64.wrap ((a.toNat:Int) * 2 ^ min n 64) % 4294967296),.bool (bits BinOp.and IntKind.u64 (IntKind.u64.wrap ((a.toNat:Int) * 2 ^ min n 64) / 4294967296) 1==1)])=_;rw [e1,show ((4294967296:Int))=((4294967296:Nat):Int) from rfl,←Int.natCast_ediv,←Int.natCast_emod,bit1 _ (by omega)];have e2:a.toNat * 2 ^ min n 64 % 18446744073709551616 % 4294967296=(a <<< n).toNat:=by
  rw [BitVec.toNat_shiftLeft,Nat.shiftLeft_eq,Nat.mod_mod_of_dvd _ (by decide:4294967296 ∣ 18446744073709551616)];rcases Nat.le_total n 64 with h | h
  ·rw [Nat.min_eq_left h]
  ·rw [Nat.min_eq_right h,show n = 64+(n - 64) by omega,Nat.pow_add];rw [show (2:Nat) ^ 64 = 4294967296 * 4294967296 by decide];rw [show a.toNat * (4294967296 * 4294967296 * 2 ^ (n - 64)) = 2 ^ 32 * (a.toNat * 4294967296 * 2 ^ (n - 64)) by rw [show (2:Nat) ^ 32 = 4294967296 by decide];ac_rfl,Nat.mul_mod_right];omega
 have e3:a.toNat * 2 ^ min n 64 % 18446744073709551616 / 4294967296 % 2=a.toNat * 2 ^ n / 4294967296 % 2:=by
  rcases Nat.le_total n 64 with h | h
  ·rw [Nat.min_eq_left h];generalize a.toNat * 2 ^ n=m;omega
  ·rw [Nat.min_eq_right h,show n = 64+(n - 64) by omega,Nat.pow_add];rw [show (2:Nat) ^ 64 = 18446744073709551616 by decide];rw [show a.toNat * (18446744073709551616 * 2 ^ (n - 64)) = 4294967296 * (2 * (2147483648 * (a.toNat * 2 ^ (n - 64)))) by rw [show 18446744073709551616 = 4294967296 * (2 * 2147483648) by decide];ac_rfl];rw [Nat.mul_div_cancel_left _ (by decide),Nat.mul_mod_right];omega
 rw [e2,e3]
theorem right(a:BitVec 32)(n:Nat)(hn:n < 4294967296)(w:World) :
  Calls Tryz.prog 64 #[u a,.int .u32 n] w fun e w'=>e = .returned (.tuple #[u (a >>> n),.bool (decide (a.toNat * 2 / 2 ^ n % 2 = 1))])∧w=w':=by
 have h2:=bd a;go_enter Tryz.func64,Tryz.ntmps64
 go_wp2
 go_ret2
 refine ⟨?_,rfl⟩;show Ending.returned (.tuple #[.int .u32 ((a.toNat:Int) * 2 / 2 ^ min n 64 / 2 % 4294967296),.bool (bits BinOp.and IntKind.u64 ((a.toNat:Int) * 2 / 2 ^ min n 64) 1==1)])=_;have e1:(a.toNat:Int) * 2 / 2 ^ min n 64=((a.toNat * 2 / 2 ^ min n 64:Nat):Int):=by rw [Int.natCast_ediv,Int.natCast_mul,Int.natCast_pow];rfl
 have e0:a.toNat * 2 / 2 ^ min n 64=a.toNat * 2 / 2 ^ n:=by
  rcases Nat.le_total n 64 with h | h
  ·rw [Nat.min_eq_left h]
  ·rw [Nat.min_eq_right h,Nat.div_eq_of_lt (by omega),Nat.div_eq_of_lt (Nat.lt_of_lt_of_le (by omega:a.toNat * 2 < 2 ^ 64) (Nat.pow_le_pow_right (by omega) h))]
 have e4:a.toNat * 2 / 2 ^ n≤a.toNat * 2:=Nat.div_le_self _ _;rw [e1,e0,bit1 _ (by omega)];have e2:((a.toNat * 2 / 2 ^ n:Nat):Int) / 2 % 4294967296=((a >>> n).toNat:Int):=by
  rw [BitVec.toNat_ushiftRight,Nat.shiftRight_eq_div_pow];have e5:a.toNat * 2 / 2 ^ n / 2=a.toNat / 2 ^ n:=by rw [Nat.div_div_eq_div_mul,Nat.mul_comm (2 ^ n) 2,Nat.mul_comm a.toNat 2,Nat.mul_div_mul_left _ _ (by omega)]
  have e6:a.toNat / 2 ^ n≤a.toNat:=Nat.div_le_self _ _;generalize a.toNat * 2 / 2 ^ n=m at *;omega
 rw [e2]
theorem bit1_i64(m:Int):(bits BinOp.and IntKind.i64 m 1==1)=decide (m % 2 = 1):=by
 have e:bits BinOp.and IntKind.i64 m 1=m % 2:=by
  show IntKind.i64.wrap ((BitVec.ofInt 64 m &&& BitVec.ofInt 64 1).toNat:Int)=_;have h1:(BitVec.ofInt 64 m &&& BitVec.ofInt 64 1).toNat=(m % 2).toNat:=by
   rw [BitVec.toNat_and,show (BitVec.ofInt 64 1).toNat = 1 from rfl,Nat.and_one_is_mod,BitVec.toNat_ofInt];omega
  rw [h1,IntKind.wrap_i64];omega
 rw [e,Bool.eq_iff_iff];simp
theorem toNat_int(x:BitVec 32):(x.toNat:Int)=x.toInt % 4294967296:=by
 have h:=congrArg BitVec.toNat (BitVec.ofInt_toInt (x:=x));rw [BitVec.toNat_ofInt] at h;omega
theorem rightS(a:BitVec 32)(n:Nat)(hn:n < 4294967296)(w:World) :
  Calls Tryz.prog 65 #[u a,.int .u32 n] w fun e w'=>e = .returned (.tuple #[u (a.sshiftRight n),.bool (decide (a.toInt * 2 / 2 ^ n % 2 = 1))])∧w=w':=by
 have h2:=bd a;go_enter Tryz.func65,Tryz.ntmps65
 go_wp2
 go_ret2
 refine ⟨?_,rfl⟩;show Ending.returned (.tuple #[.int .u32 (wrap64 (wrap64 (wrap32 (a.toNat:Int)) * 2) / 2 ^ min n 64 / 2 % 4294967296),.bool (bits BinOp.and IntKind.i64 (wrap64 (wrap64 (wrap32 (a.toNat:Int)) * 2) / 2 ^ min n 64) 1==1)])=_;have ht:=toNat_int a;have hlo:=BitVec.le_toInt a;have hhi:=BitVec.toInt_lt (x:=a);have e1:wrap64 (wrap64 (wrap32 (a.toNat:Int)) * 2)=a.toInt * 2:=by
  unfold wrap64 wrap32;omega
 have e0:a.toInt * 2 / 2 ^ min n 64=a.toInt * 2 / 2 ^ n:=by
  rcases Nat.le_total n 64 with h | h
  ·rw [Nat.min_eq_left h]
  ·rw [Nat.min_eq_right h];have hp:(18446744073709551616:Int)≤2 ^ n:=by
    have:=Int.ofNat_le.2 (Nat.pow_le_pow_right (show 0 < 2 by decide) h);rw [Int.natCast_pow,Int.natCast_pow] at this;exact this
   by_cases h0:a.toInt < 0
   ·rw [Int.ediv_eq_neg_one_of_neg_of_le (by omega) (by omega),Int.ediv_eq_neg_one_of_neg_of_le (by omega) (by omega)]
   ·rw [Int.ediv_eq_zero_of_lt (by omega) (by omega),Int.ediv_eq_zero_of_lt (by omega) (by omega)]
 rw [e1,e0,bit1_i64];have e2:a.toInt * 2 / 2 ^ n / 2 % 4294967296=((a.sshiftRight n).toNat:Int):=by
  rw [toNat_int,BitVec.toInt_sshiftRight,Int.shiftRight_eq_div_pow];have e5:a.toInt * 2 / 2 ^ n / 2=a.toInt / 2 ^ n:=by
   have hp:(0:Int) < 2 ^ n:=Int.pow_pos (by omega);rw [Int.ediv_ediv_of_nonneg (by omega),Int.mul_ediv_mul_of_pos_left _ _ (by omega)]
  rw [e5,Int.natCast_pow];rfl
 rw [e2]
def shV(k:Int)(a:BitVec 32)(n:Nat):BitVec 32:=
 if k < 0∨3 < k then 0 else if n = 0 then a else if k = 0 then a <<< n else if k = 1 then a >>> n else if k = 2 then a.sshiftRight n else a.rotateLeft ((32 - n % 32) % 32)
def shC(k:Int)(a:BitVec 32)(n:Nat)(c:Bool):Bool:=
 if k < 0∨3 < k then false else if n = 0 then c else if k = 0 then decide (a.toNat * 2 ^ n / 4294967296 % 2 = 1) else if k = 1 then decide (a.toNat * 2 / 2 ^ n % 2 = 1)
 else if k = 2 then decide (a.toInt * 2 / 2 ^ n % 2 = 1) else (a.rotateLeft ((32 - n % 32) % 32)).msb
theorem shift(k:Int)(a:BitVec 32)(n:Nat)(hn:n < 4294967296)(c:Bool)(w:World) :
  Calls Tryz.prog 52 #[.int .i64 k,u a,.int .u32 n,.bool c] w fun e w'=>e = .returned (.tuple #[u (shV k a n),.bool (shC k a n c)])∧w=w':=by
 have h2:=bd a;by_cases k0:k < 0
 ·go_enter Tryz.func52,Tryz.ntmps52
  go_wp2
  go_ret2
  exact ⟨by simp [shV,shC,k0],rfl⟩
 have k0':decide (k < 0)=false:=by simpa using k0
 by_cases k3:3 < k
 ·go_enter Tryz.func52,Tryz.ntmps52
  go_wp2
  go_ret2
  exact ⟨by simp [shV,shC,k3],rfl⟩
 have k3':decide (3 < k)=false:=by simpa using k3
 have kk:¬ (k < 0∨3 < k):=by omega
 by_cases n0:n = 0
 ·subst n0;go_enter Tryz.func52,Tryz.ntmps52
  go_wp2
  go_ret2
  exact ⟨by simp [shV,shC,kk],rfl⟩
 have n0':((n:Int)==0)=false:=by simpa using n0
 have hsh:k = 0∨k = 1∨k = 2∨k = 3:=by omega
 rcases hsh with rfl | rfl | rfl | rfl
 ·go_enter Tryz.func52,Tryz.ntmps52;go_wp2_with (go_at_call 63;refine (left a n hn _).mono ?_;rintro e w' ⟨rfl,rfl⟩)
  go_ret2
  exact ⟨by simp [shV,shC,n0],rfl⟩
 ·go_enter Tryz.func52,Tryz.ntmps52;go_wp2_with (go_at_call 64;refine (right a n hn _).mono ?_;rintro e w' ⟨rfl,rfl⟩)
  go_ret2
  exact ⟨by simp [shV,shC,n0],rfl⟩
 ·go_enter Tryz.func52,Tryz.ntmps52;go_wp2_with (go_at_call 65;refine (rightS a n hn _).mono ?_;rintro e w' ⟨rfl,rfl⟩)
  go_ret2
  exact ⟨by simp [shV,shC,n0],rfl⟩
 ·have hs:(32 - n % 32) % 32 < 32:=by omega
  go_enter Tryz.func52,Tryz.ntmps52;go_wp2_with fail
  refine (rotl a _ ((32 - n % 32) % 32) hs (by omega) _).mono ?_;rintro e w' ⟨rfl,rfl⟩;go_wp2_with (go_at_call 66;refine (highest _ _).mono ?_;rintro e w' ⟨rfl,rfl⟩)
  go_ret2
  refine ⟨?_,rfl⟩;simp [shV,shC,n0]
end Go.Proofs.YtdhoemlomojfaaaGreatDoor.Word
namespace Go.Proofs.YtdhoemlomojfaaaGreatDoor.Co
open WMath Word
def nbi(k:Nat)(x:BitVec 32)(j:Nat):Bool:=if k = 0 then decide (0 < j) && x.getLsbD (j - 1) else decide (j < 31) && x.getLsbD (j+1)
def nb(k:Nat)(x:BitVec 32)(j:Nat):Bool:=if j = 31∧k = 2 then x.getLsbD 31 else if j = 31∧k = 3 then x.getLsbD 0 else nbi k x j
def cry(k:Nat)(x:BitVec 32):Bool:=if k = 0 then x.getLsbD 31 else x.getLsbD 0
theorem rot_get(a:BitVec 32)(n i:Nat)(hi:i < 32):(a.rotateLeft n).getLsbD i=a.getLsbD ((i+32 - n % 32) % 32):=by
 rw [BitVec.getLsbD_rotateLeft];by_cases h:i < n % 32
 ·simp only [h,decide_true,cond_true]
  congr 1;omega
 ·simp only [h,decide_false,cond_false,hi,decide_true,Bool.true_and]
  congr 1;omega
theorem rot_rot(a:BitVec 32)(x y z:Nat)(h:z % 32=(x+y) % 32):(a.rotateLeft x).rotateLeft y=a.rotateLeft z:=by
 apply BitVec.eq_of_getLsbD_eq;intro i hi;rw [rot_get _ _ _ hi,rot_get _ _ _ (by omega),rot_get _ _ _ hi]
 congr 1;omega
theorem shV_twice(k:Int)(a:BitVec 32)(x y:Nat):shV k (shV k a x) y=shV k a (x+y):=by
 unfold shV;by_cases kk:k < 0∨3 < k
 ·simp [kk]
 simp only [kk,if_false];by_cases hx:x = 0
 ·subst hx;simp
 by_cases hy:y = 0
 ·subst hy;simp
 simp only [hx,hy,if_false,show ¬ (x+y = 0) by omega];by_cases h0:k = 0
 ·simp only [h0,if_true];rw [BitVec.shiftLeft_add]
 by_cases h1:k = 1
 ·simp only [h1,if_true];apply BitVec.eq_of_toNat_eq;simp [Nat.shiftRight_add]
 by_cases h2:k = 2
 ·subst h2;simp [BitVec.sshiftRight_add]
 simp only [h0,h1,h2,if_false];exact rot_rot _ _ _ _ (by omega)
theorem sh_one(k:Nat)(hk:k < 4)(x:BitVec 32)(j:Nat)(hj:j < 32):(shV k x 1).getLsbD j=nb k x j:=by
 have hr:k = 0∨k = 1∨k = 2∨k = 3:=by omega
 rcases hr with rfl | rfl | rfl | rfl
 ·simp only [shV,nb,nbi];simp [BitVec.getLsbD_shiftLeft];by_cases h:j = 0
  ·subst h;simp
  ·simp [h,hj];intro;omega
 ·simp only [shV,nb,nbi];simp [BitVec.getLsbD_ushiftRight];by_cases h:j = 31
  ·subst h;simp
  ·rw [Nat.add_comm];simp [show j < 31 by omega]
 ·simp only [shV,nb,nbi];simp [BitVec.getLsbD_sshiftRight];by_cases h:j = 31
  ·subst h;simp [BitVec.msb_eq_getLsbD_last]
  ·rw [Nat.add_comm];simp [show j < 31 by omega,show j+1 < 32 by omega,h,show ¬ 32≤j by omega]
 ·show ((x.rotateLeft 31).getLsbD j)=_;rw [rot_get _ _ _ hj];simp only [nb,nbi];by_cases h:j = 31
  ·subst h;simp
  ·rw [show (j+32 - 31 % 32) % 32=j+1 by omega];simp [h,show j < 31 by omega]
theorem sh_succ(k:Nat)(hk:k < 4)(a:BitVec 32)(i j:Nat)(hj:j < 32):(shV k a (i+1)).getLsbD j=nb k (shV k a i) j:=by
 rw [←shV_twice,sh_one k hk _ _ hj]
theorem bit0(x:BitVec 32):x.getLsbD 0=decide (x.toNat % 2 = 1):=by
 rw [←BitVec.testBit_toNat,Nat.testBit_eq_decide_div_mod_eq];simp
theorem shV_zero(k:Nat)(hk:k < 4)(a:BitVec 32):shV k a 0=a:=by
 unfold shV;rw [if_neg (by omega),if_pos rfl]
theorem shc_succ(k:Nat)(hk:k < 4)(a:BitVec 32)(i:Nat)(c:Bool):shC k a (i+1) c=cry k (shV k a i):=by
 have hr:k = 0∨k = 1∨k = 2∨k = 3:=by omega
 rcases hr with rfl | rfl | rfl | rfl
 ·have e:shV (0:Nat) a i=a <<< i:=by
   unfold shV;by_cases h:i = 0
   ·subst h;simp
   ·simp [h]
  rw [e];show decide (a.toNat * 2 ^ (i+1) / 4294967296 % 2 = 1)=(a <<< i).getLsbD 31;have:=Nat.testBit_shiftLeft (x:=a.toNat) (i:=i+1) (j:=32);rw [Nat.testBit_eq_decide_div_mod_eq,Nat.shiftLeft_eq] at this;rw [show (4294967296:Nat) = 2 ^ 32 from rfl,this,BitVec.getLsbD_shiftLeft,←BitVec.testBit_toNat];by_cases h:i≤31
  ·simp [show i+1≤32 by omega,show ¬ 31 < i by omega,show 32 - (i+1) = 31 - i by omega]
  ·simp [show ¬ (i+1≤32) by omega,show 31 < i by omega]
 ·have e:shV (1:Nat) a i=a >>> i:=by
   unfold shV;by_cases h:i = 0
   ·subst h;simp
   ·simp [h]
  rw [e];show decide (a.toNat * 2 / 2 ^ (i+1) % 2 = 1)=(a >>> i).getLsbD 0;rw [BitVec.getLsbD_ushiftRight,←BitVec.testBit_toNat,Nat.testBit_eq_decide_div_mod_eq,Nat.add_zero,Nat.pow_succ,Nat.mul_div_mul_right _ _ (by decide)];rfl
 ·have e:shV (2:Nat) a i=a.sshiftRight i:=by
   unfold shV;by_cases h:i = 0
   ·subst h;simp
   ·simp [h]
  rw [e];show decide (a.toInt * 2 / 2 ^ (i+1) % 2 = 1)=(a.sshiftRight i).getLsbD 0;rw [bit0];have h1:=toNat_int (a.sshiftRight i);have h2:(a.sshiftRight i).toInt=a.toInt / 2 ^ i:=by rw [BitVec.toInt_sshiftRight,Int.shiftRight_eq_div_pow];rfl
  have h3:a.toInt * 2 / 2 ^ (i+1)=a.toInt / 2 ^ i:=by
   rw [Int.pow_succ,Int.mul_ediv_mul_of_pos_left _ _ (by decide)]
  rw [h3,←h2];generalize (a.sshiftRight i).toInt=z at *;generalize (a.sshiftRight i).toNat=q at *;rw [decide_eq_decide];omega
 ·show (a.rotateLeft ((32 - (i+1) % 32) % 32)).msb=(shV (3:Nat) a i).getLsbD 0;have h:=sh_succ 3 (by decide) a i 31 (by decide);have e:shV (3:Nat) a (i+1)=a.rotateLeft ((32 - (i+1) % 32) % 32):=by unfold shV;simp
  rw [e] at h;rw [BitVec.msb_eq_getLsbD_last];rw [show (32 - 1:Nat) = 31 from rfl,h];simp [nb]
theorem sh_far(k:Nat)(hk:k < 3)(a:BitVec 32)(n:Nat)(hn:32≤n):shV k a n=shV k a 32:=by
 have hr:k = 0∨k = 1∨k = 2:=by omega
 rcases hr with rfl | rfl | rfl
 ·have e:∀ m:Nat,32≤m→shV (0:Nat) a m = 0#32:=fun m hm=>by
   unfold shV;simp only [show ¬ m = 0 by omega,if_false];simp;exact BitVec.shiftLeft_eq_zero hm
  rw [e n hn,e 32 (by decide)]
 ·have e:∀ m:Nat,32≤m→shV (1:Nat) a m = 0#32:=fun m hm=>by
   unfold shV;simp only [show ¬ m = 0 by omega,if_false];simp;exact BitVec.ushiftRight_eq_zero hm
  rw [e n hn,e 32 (by decide)]
 ·have e:∀ m:Nat,32≤m→∀ j,j < 32→(shV (2:Nat) a m).getLsbD j=a.msb:=fun m hm j hj=>by
   have e0:shV (2:Nat) a m=a.sshiftRight m:=by unfold shV;simp [show ¬ m = 0 by omega]
   rw [e0,BitVec.getLsbD_sshiftRight];simp [show ¬ 32≤j by omega];intro h;omega
  apply BitVec.eq_of_getLsbD_eq;intro j hj;rw [e n hn j hj,e 32 (by decide) j hj]
def rby(k n:Nat):Nat:=if k = 3∧64 < n then 32+n % 32 else n
theorem sh_rby(k:Nat)(hk:k < 4)(a:BitVec 32)(n:Nat)(c:Bool):shV k a (min (rby k n) 70)=shV k a n∧shC k a (min (rby k n) 70) c=shC k a n c:=by
 by_cases h3:k = 3
 ·subst h3;by_cases hn:64 < n
  ·have e:min (rby 3 n) 70 = 32+n % 32:=by unfold rby;rw [if_pos ⟨rfl,hn⟩];omega
   rw [e];have e2:(32 - (32+n % 32) % 32) % 32=(32 - n % 32) % 32:=by omega
   constructor
   ·unfold shV;simp [show ¬ n = 0 by omega,show ¬ (32+n % 32 = 0) by omega,e2]
   ·unfold shC;simp [show ¬ n = 0 by omega,show ¬ (32+n % 32 = 0) by omega,e2]
  ·have e:min (rby 3 n) 70=n:=by unfold rby;rw [if_neg (by omega)];omega
   rw [e];exact ⟨rfl,rfl⟩
 ·have e:rby k n=n:=by unfold rby;rw [if_neg (by omega)]
  rw [e];by_cases hn:n≤70
  ·rw [Nat.min_eq_left hn];exact ⟨rfl,rfl⟩
  ·rw [Nat.min_eq_right (by omega)];refine ⟨by rw [sh_far k (by omega) a 70 (by decide),sh_far k (by omega) a n (by omega)],?_⟩;obtain ⟨m,rfl⟩:∃ m,n=m+1:=⟨n - 1,by omega⟩;rw [shc_succ k hk,shc_succ k hk,sh_far k (by omega) a 69 (by decide),sh_far k (by omega) a m (by omega)]
end Go.Proofs.YtdhoemlomojfaaaGreatDoor.Co
