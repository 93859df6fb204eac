/- DERIVED. FlJo, FlNu, FlFi. By an AI agent. -/
import Derived.Test.YtdhoemlomojfaaaGreatDoorW01
import Derived.Test.YtdhoemlomojfaaaGreatDoorW13
import Derived.Deep.Cut
import Derived.Carry
import Derived.Test.YtdhoemlomojfaaaGreatDoorW03
set_option maxRecDepth 100000
set_option maxHeartbeats 4000000
set_option linter.unusedVariables false
set_option linter.unusedSimpArgs false
namespace Go.Proofs.YtdhoemlomojfaaaGreatDoor.Fl
open Go Go.ChangeShapes Go.WideShapes Go.ChangeAt Go.RowKit Lx Args Pa Sh Go.Proofs.YtdhoemlomojfaaaGreatDoor.Nm WMath
def unB(s:Bs)(x:BitVec 32):BitVec 32:=if s=[126] then ~~~x else if s=[45] then -x else 0
def boB(s:Bs)(x y:BitVec 32):BitVec 32:=
 if s=[43] then x+y else if s=[45] then x - y else if s=[38] then x &&& y else if s=[124] then x ||| y else if s=[94] then x ^^^ y else 0
def shB(s:Bs)(x y:BitVec 32):BitVec 32:=
 if s=[60,60] then Word.shV 0 x y.toNat else if s=[62,62] then Word.shV 1 x y.toNat else if s=[60,60,60] then x.rotateLeft y.toNat else 0
abbrev uV(x:BitVec 32):Value:=.int .u32 (x.toNat:Int)
def WoP(w:World)(x:BitVec 32)(e:Ending)(w':World):Prop:=e = .returned (uV x)∧Below w.heap.size w w'
theorem add_u(x y:BitVec 32):((x.toNat:Int)+(y.toNat:Int)) % 4294967296=((x+y).toNat:Int):=by
 rw [BitVec.toNat_add];omega
theorem sub_u(x y:BitVec 32):((x.toNat:Int) - (y.toNat:Int)) % 4294967296=((x - y).toNat:Int):=by
 have hx:=x.isLt;have hy:=y.isLt;rw [BitVec.toNat_sub];omega
theorem neg_u(x:BitVec 32):(-(x.toNat:Int)) % 4294967296=((-x).toNat:Int):=by
 have hx:=x.isLt;rw [BitVec.toNat_neg];omega
theorem alone(w:World)(s:Bs)(x:BitVec 32):Calls Tryz.prog 119 #[.string ⟨s.toArray⟩,uV x] w (WoP w (unB s x)):=by
 have hx:(x.toNat:Int) < 4294967296:=by have:=x.isLt;omega
 have HNE:=neg_u x;have HB:=Hi (Below.refl w.heap.size w);unfold WoP;obtain ⟨res,hres⟩:∃ res,unB s x=res:=⟨_,rfl⟩;have HRES:=Hi hres;rw [hres];clear hres;unfold unB at HRES;by_cases e1:s=[126]
 ·subst e1;have HQ:=Hi (show ~~~x=res from HRES.out);have hun:=un_not x;clear HRES;go_enter Tryz.func119,Tryz.ntmps119;go_wp2_with fail
  go_ret;refine ⟨?_,HB.out⟩;rw [←HQ.out];show Ending.returned (.int .u32 (((4294967295 - x.toNat:Nat):Int)))=_;rw [show 4294967295 - x.toNat=(~~~x).toNat from (BitVec.toNat_not (x:=x)).symm]
 by_cases e2:s=[45]
 ·subst e2;have HQ:=Hi (show -x=res from HRES.out);clear HRES;go_enter Tryz.func119,Tryz.ntmps119;go_wp2_with fail
  go_ret;refine ⟨?_,HB.out⟩;rw [←HQ.out];show Ending.returned (.int .u32 ((-(x.toNat:Int)) % 4294967296))=_;rw [HNE]
 have HQ:=Hi (show (0:BitVec 32)=res by rw [←HRES.out,if_neg e1,if_neg e2]);have f1:(s==[126])=false:=by simpa using e1
 have f2:(s==[45])=false:=by simpa using e2
 clear HRES;go_enter Tryz.func119,Tryz.ntmps119;go_wp2_with fail
 go_ret;refine ⟨?_,HB.out⟩;rw [←HQ.out];rfl
theorem both(w:World)(s:Bs)(x y:BitVec 32):Calls Tryz.prog 120 #[.string ⟨s.toArray⟩,uV x,uV y] w (WoP w (boB s x y)):=by
 have hx:(x.toNat:Int) < 4294967296:=by have:=x.isLt;omega
 have hy:(y.toNat:Int) < 4294967296:=by have:=y.isLt;omega
 have ha:=add_u x y;have hs:=sub_u x y;have h1:=b_and x y;have h2:=b_or x y;have h3:=b_xor x y;have HB:=Hi (Below.refl w.heap.size w);unfold WoP;obtain ⟨res,hres⟩:∃ res,boB s x y=res:=⟨_,rfl⟩;have HRES:=Hi hres;rw [hres];clear hres;unfold boB at HRES;by_cases e1:s=[43]
 ·subst e1;have HQ:=Hi (show x+y=res from HRES.out);clear HRES;go_enter Tryz.func120,Tryz.ntmps120;go_wp2_with fail
  go_ret;refine ⟨?_,HB.out⟩;rw [←HQ.out];show Ending.returned (.int .u32 (((x.toNat:Int)+(y.toNat:Int)) % 4294967296))=_;rw [ha]
 by_cases e2:s=[45]
 ·subst e2;have HQ:=Hi (show x - y=res from HRES.out);clear HRES;go_enter Tryz.func120,Tryz.ntmps120;go_wp2_with fail
  go_ret;refine ⟨?_,HB.out⟩;rw [←HQ.out];show Ending.returned (.int .u32 (((x.toNat:Int) - (y.toNat:Int)) % 4294967296))=_;rw [hs]
 by_cases e3:s=[38]
 ·subst e3;have HQ:=Hi (show x &&& y=res from HRES.out);clear HRES;go_enter Tryz.func120,Tryz.ntmps120;go_wp2_with fail
  go_ret;refine ⟨?_,HB.out⟩;rw [←HQ.out];show Ending.returned (.int .u32 (((x.toNat &&& y.toNat:Nat):Int)))=_;rw [←BitVec.toNat_and]
 by_cases e4:s=[124]
 ·subst e4;have HQ:=Hi (show x ||| y=res from HRES.out);clear HRES;go_enter Tryz.func120,Tryz.ntmps120;go_wp2_with fail
  go_ret;refine ⟨?_,HB.out⟩;rw [←HQ.out];show Ending.returned (.int .u32 (((x.toNat ||| y.toNat:Nat):Int)))=_;rw [←BitVec.toNat_or]
 by_cases e5:s=[94]
 ·subst e5;have HQ:=Hi (show x ^^^ y=res from HRES.out);clear HRES;go_enter Tryz.func120,Tryz.ntmps120;go_wp2_with fail
  go_ret;refine ⟨?_,HB.out⟩;rw [←HQ.out];show Ending.returned (.int .u32 (((x.toNat ^^^ y.toNat:Nat):Int)))=_;rw [←BitVec.toNat_xor]
 have HQ:=Hi (show (0:BitVec 32)=res by rw [←HRES.out,if_neg e1,if_neg e2,if_neg e3,if_neg e4,if_neg e5]);have f1:(s==[43])=false:=by simpa using e1
 have f2:(s==[45])=false:=by simpa using e2
 have f3:(s==[38])=false:=by simpa using e3
 have f4:(s==[124])=false:=by simpa using e4
 have f5:(s==[94])=false:=by simpa using e5
 clear HRES;go_enter Tryz.func120,Tryz.ntmps120;go_wp2_with fail
 go_ret;refine ⟨?_,HB.out⟩;rw [←HQ.out];rfl
theorem shifted(w:World)(s:Bs)(x y:BitVec 32):Calls Tryz.prog 121 #[.string ⟨s.toArray⟩,uV x,uV y] w (WoP w (shB s x y)):=by
 have hx:(x.toNat:Int) < 4294967296:=by have:=x.isLt;omega
 have hy:(y.toNat:Int) < 4294967296:=by have:=y.isLt;omega
 have HS:=Hi (Word.shift 0 x y.toNat y.isLt false w);have HT:=Hi (Word.shift 1 x y.toNat y.isLt false w);have HR:=Hi (Word.rot x y.toNat y.isLt w);have HB:=Hi (Below.refl w.heap.size w);unfold WoP;obtain ⟨res,hres⟩:∃ res,shB s x y=res:=⟨_,rfl⟩;have HRES:=Hi hres;rw [hres];clear hres;unfold shB at HRES;by_cases e1:s=[60,60]
 ·subst e1;have HQ:=Hi (show Word.shV 0 x y.toNat=res from HRES.out);rw [HQ.out] at HS;clear HRES;go_enter Tryz.func121,Tryz.ntmps121;go_wp2_with fail
  refine HS.out.mono ?_;rintro e w1 ⟨rfl,rfl⟩;go_wp2_with fail
  go_ret;exact ⟨rfl,HB.out⟩
 by_cases e2:s=[62,62]
 ·subst e2;have HQ:=Hi (show Word.shV 1 x y.toNat=res from HRES.out);rw [HQ.out] at HT;clear HRES;go_enter Tryz.func121,Tryz.ntmps121;go_wp2_with fail
  refine HT.out.mono ?_;rintro e w1 ⟨rfl,rfl⟩;go_wp2_with fail
  go_ret;exact ⟨rfl,HB.out⟩
 by_cases e3:s=[60,60,60]
 ·subst e3;have HQ:=Hi (show x.rotateLeft y.toNat=res from HRES.out);rw [HQ.out] at HR;clear HRES;go_enter Tryz.func121,Tryz.ntmps121;go_wp2_with fail
  refine HR.out.mono ?_;rintro e w1 ⟨rfl,rfl⟩;go_wp2_with fail
  go_ret;exact ⟨rfl,HB.out⟩
 have HQ:=Hi (show (0:BitVec 32)=res by rw [←HRES.out,if_neg e1,if_neg e2,if_neg e3]);have f1:(s==[60,60])=false:=by simpa using e1
 have f2:(s==[62,62])=false:=by simpa using e2
 have f3:(s==[60,60,60])=false:=by simpa using e3
 clear HRES;go_enter Tryz.func121,Tryz.ntmps121;go_wp2_with fail
 go_ret;refine ⟨?_,HB.out⟩;rw [←HQ.out];rfl
end Go.Proofs.YtdhoemlomojfaaaGreatDoor.Fl
namespace Go.Proofs.YtdhoemlomojfaaaGreatDoor.Fl
open Go Go.ChangeShapes Go.WideShapes Go.ChangeAt Go.RowKit Lx Args Pa Sh Go.Proofs.YtdhoemlomojfaaaGreatDoor.Nm
/-! A loop's variable. -/
def NumP(w:World)(lo:Lo)(s:Bs)(e:Ending)(w':World):Prop:=e = .returned (.tuple #[.int .u32 (loN (lo s)),.bool (lo s).isSome])∧Below w.heap.size w w'
theorem number(w:World)(b n:Nat)(kn:Kw)(h:MpW w b n kn)(s:Bs)(hs:s.length≤maxLen) :
  Calls Tryz.prog 93 #[.map (some b),.string ⟨s.toArray⟩] w (NumP w (looB kn) s):=by
 have hrun:=mpw_look1 h hs;unfold wkV at hrun;rw [wkAt_lo,wkAt_sec] at hrun;obtain ⟨w1,hw1⟩:∃ w1,w.alloc (.cells #[.bool (secB kn s),.bool (looB kn s).isSome,.int .u32 (loN (looB kn s))] 143)=w1:=⟨_,rfl⟩;have hb1:Below w.heap.size w w1:=by rw [←hw1];exact (Below.refl _ _).alloc (Nat.le_refl _) _
 have hX1:Blk w1 w.heap.size 143 #[.bool (secB kn s),.bool (looB kn s).isSome,.int .u32 (loN (looB kn s))]:=by rw [←hw1];exact Blk.new _ _ _
 have HB:=Hi hb1;have HW:=Hi hw1;obtain ⟨c0,c1,c2,f0,f1,f2⟩:=Blk.c3 hX1;unfold NumP;clear h hw1 hb1 hX1;generalize secB kn s=q at *;generalize (looB kn s).isSome=q1 at *;generalize loN (looB kn s)=q2 at *;go_enter Tryz.func93,Tryz.ntmps93;go_upto_region 2 with fail
 rw [HW.out]
 go_region
 all_goals (
  go_wp2_with fail
  go_ret2
  exact ⟨rfl,Below.drew HB.out⟩)
/-! Texts in a row. -/
theorem sindex(A:Option Addr)(c:Nat)(l:List Bs)(a:Bs)(w:World)(hA:Lies w A (l.map strV))(hl:l.length≤100) :
  Calls Tryz.prog 184 #[.slice A l.length c,.string ⟨a.toArray⟩] w fun e w'=>∃ r:Int,e = .returned (.int .i64 r)∧l.contains a=decide (0≤r)∧Below w.heap.size w w':=by
 have HA:=Hi hA;clear hA;go_enter Tryz.func184,Tryz.ntmps184;go_wp2_with fail
 go_loopw [8] (fun vi wr=>∃ i:Nat,i≤l.length∧vi = .int .i64 (i:Int)∧Hid (Below w.heap.size w wr)∧Hid (∀ j,j < i→l[j]?≠some a)) (fun vi _=>l.length - (intOf vi).toNat)
 case atStart=>exact ⟨0,by omega,rfl,Hi (Below.refl _ _),Hi fun j hj=>absurd hj (by omega)⟩
 case round=>
  obtain ⟨i,hi,rfl,HH,HQ⟩:=hrel;by_cases hlt:i < l.length
  ·obtain ⟨p,hp⟩:∃ p,l[i]?=some p:=⟨_,List.getElem?_eq_getElem hlt⟩;have f1:(l.map strV)[i]?=some (.string ⟨p.toArray⟩):=by rw [List.getElem?_map,hp];rfl
   obtain ⟨b,o,rfl,_,hc1⟩:=(HA.out.below HH.out).at_ f1;have e1:=hc1 _ _ f1;by_cases hpa:a=p
   ·subst hpa;have HR:=Hi (show l.contains a=true from List.contains_iff_mem.2 (List.mem_of_getElem? hp));clear hc1 f1 hp;go_wp2_with fail
    go_ret;exact ⟨_,rfl,by rw [HR.out];simp,HH.out⟩
   ·have HN:=Hi (show ∀ j,j < i+1→l[j]?≠some a from fun j hj=>by
     by_cases h:j < i
     ·exact HQ.out j h
     ·obtain rfl:j=i:=by omega
      rw [hp];intro h;exact hpa (Option.some.inj h).symm)
    have hne:(a==p)=false:=by simpa using hpa
    clear hc1 f1 hp hpa;go_wp2_with fail
    go_roundw
    case rel=>exact ⟨i+1,by omega,by go_num,HH,HN⟩
    case measure=>simp [intOf];omega
  ·have hr:l.contains a=false:=by
    cases h:l.contains a with
    | false=>rfl
    | true=>
     obtain ⟨j,hj⟩:=List.getElem?_of_mem (List.contains_iff_mem.1 h);have hjl:=(List.getElem?_eq_some_iff.1 hj).1;exact absurd hj (HQ.out j (by omega))
   have HR:=Hi hr;clear hr;go_wp2_with fail
   go_ret;exact ⟨_,rfl,by rw [HR.out];simp,HH.out⟩
theorem scontains(A:Option Addr)(c:Nat)(l:List Bs)(a:Bs)(w:World)(hA:Lies w A (l.map strV))(hl:l.length≤100) :
  Calls Tryz.prog 175 #[.slice A l.length c,.string ⟨a.toArray⟩] w fun e w'=>e = .returned (.bool (l.contains a))∧Below w.heap.size w w':=by
 have HI:=Hi (sindex A c l a w hA hl);clear hA;generalize l.contains a=res at HI ⊢;go_enter Tryz.func175,Tryz.ntmps175;go_wp2_with fail
 refine HI.out.mono ?_;rintro e w1 ⟨r,rfl,hr,hb⟩;subst hr;have HB:=Hi hb;clear hb;go_wp2_with fail
 go_ret;exact ⟨rfl,HB.out⟩
/-! A node's form. -/
theorem hasForm(w:World)(k a:Int)(s:Bs)(n:Nat)(A:Option Addr)(la cA:Nat)(B:Option Addr)(lb cB:Nat)(m:Nat)(G:Option Addr)(c:Nat)(sg:List Bs)(hG:Lies w G (sg.map strV))(hl:sg.length≤100) :
  Calls Tryz.prog 166 #[nzA k a s n A la cA B lb cB,.int .i64 (m:Int),.slice G sg.length c] w (TellP w (decide (la=m) && sg.contains s)):=by
 obtain ⟨w1,hw1,hb1,hX1,_⟩:=a_box w (nB k a s n A la cA B lb cB);have HC:=Hi (scontains G c sg s w1 (hG.below hb1) hl);obtain ⟨⟨e0,e1,e2,e3,e4,e5⟩,z0,z1,z2,z3,z4,z5⟩:=Blk.c6 hX1;have HB:=Hi hb1;have HW:=Hi hw1;have hml:((la:Int)==(m:Int))=decide (la=m):=by
  cases h:decide (la=m) <;> simp at h ⊢ <;> omega
 clear hG hw1 hb1 hX1;generalize sg.contains s=q at *;go_enter Tryz.func166,Tryz.ntmps166;cases hd:decide (la=m) with
 | false=>
  rw [hd] at hml;go_wp2_with fail
  rw [HW.out];go_ret;exact ⟨rfl,HB.out⟩
 | true=>
  rw [hd] at hml;go_wp2_with fail
  rw [HW.out];refine HC.out.mono ?_;rintro e w2 ⟨rfl,hb2⟩;have HB2:=Hi (HB.out.trans (hb2.mono HB.out.size));clear hb2;go_wp2_with fail
  go_ret;exact ⟨rfl,HB2.out⟩
theorem strs_box(w:World)(l:List Bs):∃ w1,w.alloc (.cells (l.map strV).toArray 9)=w1∧Below w.heap.size w w1∧Lies w1 (some ⟨w.heap.size,0,none⟩) (l.map strV):=
 ⟨_,rfl,(Below.refl _ _).alloc (Nat.le_refl _) _,lies_full _ _ _⟩
abbrev nuV(b:Nat):Value:=.func (.func 93) #[.map (some b)] #[]
def nvQ:Bool×Nat→Value
 | (false,b)=>nuV b
 | (true,p)=>.func (.func 123) #[] #[.pointer (some ⟨p,0,none⟩)]
def nuF:Bool×Nat→Nat
 | (false,_)=>93
 | (true,_)=>123
def nuA:Bool×Nat→Bs→Array Value
 | (false,b),s=>#[.map (some b),.string ⟨s.toArray⟩]
 | (true,p),s=>#[.string ⟨s.toArray⟩,.pointer (some ⟨p,0,none⟩)]
structure NuI(q:Bool×Nat)(lo:Lo)(I:World→Prop):Prop where
 mono:∀ {w w':World},I w→Below w.heap.size w w'→I w'
 run:∀ w,I w→∀ s:Bs,s.length≤maxLen→Calls Tryz.prog (nuF q) (nuA q s) w (NumP w lo s)
theorem mpI(b q:Nat)(kn:Kw):NuI (false,b) (looB kn) (fun w=>MpW w b q kn) where
 mono:=fun h hb=>h.upd (Upd.of_below hb fun _=>False) id
 run:=fun w h s hs=>number w b q kn h s hs
theorem fitsQ(w:World)(q:Bool×Nat)(lo:Lo)(I:World→Prop)(hI:NuI q lo I)(h:I w)(k a:Int)(s:Bs)(hs:s.length≤maxLen)(n:Nat)(A:Option Addr)(la cA:Nat)(B:Option Addr)(lb cB:Nat) :
  Calls Tryz.prog 148 #[nzA k a s n A la cA B lb cB,nvQ q] w (TellP w (fitB lo k s la)):=by
 obtain ⟨w1,hw1,hb1,hX1,hs1⟩:=a_box w (nB k a s n A la cA B lb cB);have HN:=Hi (hI.run w1 (hI.mono h hb1) s hs);obtain ⟨w2,hw2,hb2,hL2⟩:=strs_box w1 sgU;obtain ⟨w3,hw3,hb3,hL3⟩:=strs_box w1 sgB;obtain ⟨w4,hw4,hb4,hL4⟩:=strs_box w1 sgS;rw [hs1] at hL2 hL3 hL4;have HU:=Hi (hasForm w2 k a s n A la cA B lb cB 1 _ 2 sgU hL2 (by decide));have HF:=Hi (hasForm w3 k a s n A la cA B lb cB 2 _ 5 sgB hL3 (by decide));have HS:=Hi (hasForm w4 k a s n A la cA B lb cB 2 _ 3 sgS hL4 (by decide));obtain ⟨⟨e0,e1,e2,e3,e4,e5⟩,z0,z1,z2,z3,z4,z5⟩:=Blk.c6 hX1;have HB:=Hi hb1;have HW:=Hi hw1;have HW2:=Hi hw2;have HW3:=Hi hw3;have HW4:=Hi hw4;have HB2:=Hi (hb1.trans (hb2.mono hb1.size));have HB3:=Hi (hb1.trans (hb3.mono hb1.size));have HB4:=Hi (hb1.trans (hb4.mono hb1.size));obtain ⟨res,hres⟩:∃ res,fitB (lo) k s la=res:=⟨_,rfl⟩;have HRES:=Hi hres;rw [hres];clear h hw1 hb1 hX1 hw2 hb2 hL2 hw3 hb3 hL3 hw4 hb4 hL4 hs1 hres;unfold fitB at HRES;by_cases hk1:k = 1
 ·subst hk1;have HR:=Hi (show (lo s).isSome=res by rw [←HRES.out,if_neg (by decide),if_pos rfl]);unfold NumP at HN;rw [HR.out] at HN;clear HR HRES;generalize loN (lo s)=q2 at HN;clear HU HF HS HW2 HW3 HW4 HB2 HB3 HB4;obtain ⟨q,b⟩:=q;cases q
  case' false=>
   have hen:∀ w:World,(callFunc 93 #[.map (some b),.string ⟨s.toArray⟩]).run Tryz.prog w = .ok (.enter 93 #[.map (some b),.string ⟨s.toArray⟩]) w:=fun _=>by kernel_rfl
   have HN:=Hi (show Calls Tryz.prog 93 #[.map (some b),.string ⟨s.toArray⟩] w1 _ from HN.out);show Calls Tryz.prog 148 #[nzA 1 a s n A la cA B lb cB,.func (.func 93) #[.map (some b)] #[]] w _
  case' true=>
   have hen:∀ w:World,(callFunc 123 #[.string ⟨s.toArray⟩,.pointer (some ⟨b,0,none⟩)]).run Tryz.prog w = .ok (.enter 123 #[.string ⟨s.toArray⟩,.pointer (some ⟨b,0,none⟩)]) w:=fun _=>by kernel_rfl
   have HN:=Hi (show Calls Tryz.prog 123 #[.string ⟨s.toArray⟩,.pointer (some ⟨b,0,none⟩)] w1 _ from HN.out);show Calls Tryz.prog 148 #[nzA 1 a s n A la cA B lb cB,.func (.func 123) #[] #[.pointer (some ⟨b,0,none⟩)]] w _
  all_goals
   go_enter Tryz.func148,Tryz.ntmps148;go_wp2_with fail
   rw [HW.out];refine HN.out.mono ?_;rintro e w5 ⟨rfl,hb5⟩;have HB5:=Hi (HB.out.trans (hb5.mono HB.out.size));clear hb5;go_wp2_with fail
   go_ret;exact ⟨rfl,HB5.out⟩
 go_enter Tryz.func148,Tryz.ntmps148;by_cases hk0:k = 0
 ·subst hk0;have HR:=Hi (show true=res by rw [←HRES.out,if_pos rfl]);go_wp2_with fail
  rw [HW.out];go_ret;exact ⟨by rw [←HR.out];rfl,HB.out⟩
 by_cases hk2:k = 2
 ·subst hk2;have HR:=Hi (show (decide (la = 1) && sgU.contains s)=res by rw [←HRES.out,if_neg (by decide),if_neg (by decide),if_pos rfl]);rw [HR.out] at HU;go_wp2_with fail
  rw [HW.out];rw [show w1.alloc (.cells #[.string ⟨#[126]⟩,.string ⟨#[45]⟩] 9)=w2 from HW2.out];refine (show Calls Tryz.prog 166 #[nzA 2 a s n A la cA B lb cB,.int .i64 1,.slice (some ⟨w.heap.size+1,0,none⟩) 2 2] w2 _ from HU.out).mono ?_;rintro e w5 ⟨rfl,hb5⟩;have HB5:=Hi (HB2.out.trans (hb5.mono HB2.out.size));clear hb5;go_wp2_with fail
  go_ret;exact ⟨rfl,HB5.out⟩
 by_cases hk3:k = 3
 ·subst hk3;have HR:=Hi (show (decide (la = 2) && sgB.contains s)=res by rw [←HRES.out,if_neg (by decide),if_neg (by decide),if_neg (by decide),if_pos rfl]);rw [HR.out] at HF;go_wp2_with fail
  rw [HW.out];rw [show w1.alloc (.cells #[.string ⟨#[43]⟩,.string ⟨#[45]⟩,.string ⟨#[38]⟩,.string ⟨#[124]⟩,.string ⟨#[94]⟩] 9)=w3 from HW3.out];refine (show Calls Tryz.prog 166 #[nzA 3 a s n A la cA B lb cB,.int .i64 2,.slice (some ⟨w.heap.size+1,0,none⟩) 5 5] w3 _ from HF.out).mono ?_;rintro e w5 ⟨rfl,hb5⟩;have HB5:=Hi (HB3.out.trans (hb5.mono HB3.out.size));clear hb5;go_wp2_with fail
  go_ret;exact ⟨rfl,HB5.out⟩
 by_cases hk4:k = 4
 ·subst hk4;have HR:=Hi (show (decide (la = 2) && sgS.contains s)=res by rw [←HRES.out,if_neg (by decide),if_neg (by decide),if_neg (by decide),if_neg (by decide),if_pos rfl]);rw [HR.out] at HS;go_wp2_with fail
  rw [HW.out];rw [show w1.alloc (.cells #[.string ⟨#[60,60]⟩,.string ⟨#[62,62]⟩,.string ⟨#[60,60,60]⟩] 9)=w4 from HW4.out];refine (show Calls Tryz.prog 166 #[nzA 4 a s n A la cA B lb cB,.int .i64 2,.slice (some ⟨w.heap.size+1,0,none⟩) 3 3] w4 _ from HS.out).mono ?_;rintro e w5 ⟨rfl,hb5⟩;have HB5:=Hi (HB4.out.trans (hb5.mono HB4.out.size));clear hb5;go_wp2_with fail
  go_ret;exact ⟨rfl,HB5.out⟩
 have HR:=Hi (show false=res by rw [←HRES.out,if_neg hk0,if_neg hk1,if_neg hk2,if_neg hk3,if_neg hk4]);have i0:(k==0)=false:=by simp;omega
 have i1:(k==1)=false:=by simp;omega
 have i2:(k==2)=false:=by simp;omega
 have i3:(k==3)=false:=by simp;omega
 have i4:(k==4)=false:=by simp;omega
 clear hk0 hk1 hk2 hk3 hk4;go_wp2_with fail
 rw [HW.out];go_ret;exact ⟨by rw [←HR.out];rfl,HB.out⟩
end Go.Proofs.YtdhoemlomojfaaaGreatDoor.Fl
