/- DERIVED. CiSm, CiAg. By an AI agent. -/
import Derived.Test.YtdhoemlomojfaaaGreatDoorW01
import Derived.Test.YtdhoemlomojfaaaGreatDoorW06
import Derived.Test.YtdhoemlomojfaaaGreatDoorW47
import Derived.Test.YtdhoemlomojfaaaGreatDoorW02
import Derived.ChangeMaps5
import Derived.WideShapes
set_option maxRecDepth 100000
set_option maxHeartbeats 4000000
set_option linter.unusedVariables false
set_option linter.unusedSimpArgs false
namespace Go.Proofs.YtdhoemlomojfaaaGreatDoor.Ci
open Go Go.ChangeShapes Go.WideShapes Go.ChangeAt Go.RowKit Args WMath Word
theorem lies_take{w:World}{A:Option Addr}{α:Type}{f:α→Value}{xs:List α}(h:Lies w A (xs.map f))(k:Nat):Lies w A ((xs.take k).map f):=fun j u hj=>h j u (by
 rw [List.getElem?_map] at hj ⊢;rw [List.getElem?_take] at hj;by_cases hk:j < k
 ·rw [if_pos hk] at hj;exact hj
 ·rw [if_neg hk] at hj;cases hj)
theorem bel_alloc{w w':World}(h:Below w.heap.size w w')(c:Obj):Below w.heap.size w (w'.alloc c):=h.trans (((Below.refl _ _).alloc (Nat.le_refl _) _).mono h.size)
theorem take_all{α:Type}{xs:List α}{k:Nat}(h:xs.length≤k):xs.take k=xs:=List.take_of_length_le h
theorem short(w:World)(words:List (BitVec 32))(A:Option Addr)(c:Nat)(hc:words.length≤c)(hc2:c≤maxLen)(hA:100 < words.length→∃ b o,A=some ⟨b,o,none⟩)(hL:Lies w A (words.map u)) :
  Calls Tryz.prog 10 #[.slice A words.length c] w fun e w'=>∃ A' c',(words.take 100).length≤c'∧c'≤maxLen∧e = .returned (.slice A' (words.take 100).length c')∧Lies w' A' ((words.take 100).map u)∧Below w.heap.size w w':=by
 obtain ⟨j0,hj,hy0,hy1,hy2⟩:=info_parts infoU;have HJ:=Hi hj;have HY0:=Hi hy0;have HY1:=Hi hy1;have HY2:=Hi hy2;have HL:=Hi (lies_take hL 100);have hl100:(words.take 100).length≤100:=by simp;omega
 have hle:words.length≤maxLen:=by omega
 unfold maxLen at hle hc2;clear hj hy0 hy1 hy2 hL;obtain ⟨xs,hxs⟩:∃ xs,words.take 100=xs:=⟨_,rfl⟩;by_cases hl:100 < words.length
 ·obtain ⟨b,o,rfl⟩:=hA hl;have hl2:(100:Int) < (words.length:Int):=by omega
  have hl3:(100:Int)≤(c:Int):=by omega
  have hx:(100:Nat)=xs.length:=by rw [←hxs];simp;omega
  rw [hxs] at HL hl100 ⊢;clear hA hxs;go_enter Tryz.func10,Tryz.ntmps10;have hA0:Below w.heap.size w (w.alloc (.cells #[] 35)):=bel_alloc (Below.refl _ _) _;have HLA:=Hi (HL.out.below hA0)
  (go_wp2_with (at_builtin;refine wpList_fresh0 rfl (.tmp 8) (.tmp 9) 29 rfl 35 j0 (.int .u32 0) 1 4 Tryz.underlying29 HJ.out HY0.out HY1.out HY2.out rfl (by decide) _ rfl (some ⟨b,o,none⟩) xs.length c (xs.map u) rfl (by simp;try omega) HLA.out (by unfold maxLen;omega) (by omega) ?_;intro A' c' w' h1 h2 h3 h4;have HEND:=Hi (show xs.length≤c'∧c'≤maxLen∧Lies w' A' (xs.map u)∧Below w.heap.size w w' from ⟨h1,h2,h3.lies,hA0.trans (h4.mono hA0.size)⟩);clear h1 h2 h3 h4))
  go_ret;obtain ⟨e1,e2,e3,e4⟩:=HEND.out;exact ⟨_,_,e1,e2,rfl,e3,e4⟩
 ·have hl2:¬ (100:Int) < (words.length:Int):=by omega
  obtain rfl:words=xs:=by rw [←hxs];exact (take_all (by omega)).symm
  rw [hxs] at HL hl100 ⊢;clear hA hxs;go_enter Tryz.func10,Tryz.ntmps10;have hA0:Below w.heap.size w (w.alloc (.cells #[] 35)):=bel_alloc (Below.refl _ _) _;have HLA:=Hi (HL.out.below hA0)
  (go_wp2_with (at_builtin;refine wpList_fresh0 rfl (.tmp 8) (.tmp 9) 29 rfl 35 j0 (.int .u32 0) 1 4 Tryz.underlying29 HJ.out HY0.out HY1.out HY2.out rfl (by decide) _ rfl A words.length c (words.map u) rfl (by simp;try omega) HLA.out (by unfold maxLen;omega) (by omega) ?_;intro A' c' w' h1 h2 h3 h4;have HEND:=Hi (show words.length≤c'∧c'≤maxLen∧Lies w' A' (words.map u)∧Below w.heap.size w w' from ⟨h1,h2,h3.lies,hA0.trans (h4.mono hA0.size)⟩);clear h1 h2 h3 h4))
  go_ret;obtain ⟨e1,e2,e3,e4⟩:=HEND.out;exact ⟨_,_,e1,e2,rfl,e3,e4⟩
theorem small(w:World)(A:Option Addr)(n cA:Nat)(sc pb:Int)(B:Option Addr)(m cB:Nat) :
  Calls Tryz.prog 11 #[crV A n cA sc pb B m cB] w (BoP w (decide (n≤3000∧m≤300))):=by
 obtain ⟨w1,hw1,hb1,hX1,hs1⟩:=c_box w (crB A n cA sc pb B m cB);obtain ⟨e0,e1,e2,e3,z0,z1,z2,z3⟩:=Blk.c4 hX1;have hgl:=hX1.lt;have HB:=Hi hb1;have HW:=Hi (show w.alloc (.cells #[.slice A n cA,.int .i64 sc,.int .i64 pb,.slice B m cB] 25)=w1 from hw1);unfold BoP;clear hw1 hb1 hX1 hs1;by_cases h1:n≤3000
 ·have d1:decide ((n:Int)≤3000)=true:=decide_eq_true (by omega);by_cases h2:m≤300
  ·have d2:decide ((m:Int)≤300)=true:=decide_eq_true (by omega);rw [decide_eq_true ⟨h1,h2⟩];go_enter Tryz.func11,Tryz.ntmps11;go_upto_region 1 with fail
   rw [HW.out];go_wp2_with fail
   go_ret;exact ⟨rfl,HB.out⟩
  ·have d2:decide ((m:Int)≤300)=false:=decide_eq_false (by omega);rw [decide_eq_false (fun h=>h2 h.2)];go_enter Tryz.func11,Tryz.ntmps11;go_upto_region 1 with fail
   rw [HW.out];go_wp2_with fail
   go_ret;exact ⟨rfl,HB.out⟩
 ·have d1:decide ((n:Int)≤3000)=false:=decide_eq_false (by omega);rw [decide_eq_false (fun h=>h1 h.1)];go_enter Tryz.func11,Tryz.ntmps11;go_upto_region 1 with fail
  rw [HW.out];go_wp2_with fail
  go_ret;exact ⟨rfl,HB.out⟩
theorem same(A B:Option Addr)(c d:Nat)(zs:List (BitVec 32))(w:World)(hA:Lies w A (zs.map u))(hB:Lies w B (zs.map u))(hl:zs.length≤100000) :
  Calls Tryz.prog 12 #[.slice A zs.length c,.slice B zs.length d] w fun e w'=>e = .returned (.bool true)∧Below w.heap.size w w':=by
 have HA:=Hi hA;have HB:=Hi hB;clear hA hB;go_enter Tryz.func12,Tryz.ntmps12;go_wp2_with fail
 go_loopw [5] (fun vi wr=>∃ k:Nat,k≤zs.length∧vi = .int .i64 k∧Hid (Below w.heap.size w wr)) (fun vi _=>zs.length - (intOf vi).toNat)
 case atStart=>exact ⟨0,by omega,rfl,Hi (Below.refl _ _)⟩
 case round=>
  obtain ⟨k,hk,rfl,HH⟩:=hrel;by_cases hlt:k < zs.length
  ·have f1:(zs.map u)[k]?=some (u (zs[k]'hlt)):=by simp [List.getElem?_eq_getElem hlt]
   generalize zs[k]'hlt=z at f1;obtain ⟨b,o,rfl,_,hc⟩:=(HA.out.below HH.out).at_ f1;obtain ⟨b',o',rfl,_,hc'⟩:=(HB.out.below HH.out).at_ f1;have e1:=hc _ _ f1;have e2:=hc' _ _ f1;clear hc hc' f1;go_wp2_with fail
   go_quiet (fail)
   go_wp2_with fail
   go_roundw
   case rel=>exact ⟨k+1,by omega,by go_num,Hi (HH.out.trans (Below.mono (Upd.below (drewU (fun _=>False) wr nq) (Nat.le_refl _) nofun) HH.out.size))⟩
   case measure=>simp [intOf];omega
  ·go_wp2_with fail
   go_ret;exact ⟨rfl,HH.out⟩
end Go.Proofs.YtdhoemlomojfaaaGreatDoor.Ci
namespace Go.Proofs.YtdhoemlomojfaaaGreatDoor.Ci
open Go Go.ChangeShapes Go.WideShapes Go.ChangeAt Go.RowKit Args Word
theorem lies_plain{w:World}{A:Option Addr}{α:Type}{f:α→Value}{xs:List α}(h:Lies w A (xs.map f))(hl:100 < xs.length):∃ b o,A=some ⟨b,o,none⟩:=by
 have h0:0 < (xs.map f).length:=by rw [List.length_map];omega
 obtain ⟨b,o,e,-⟩:=h.at_ (List.getElem?_eq_getElem h0);exact ⟨b,o,e⟩
section
variable {H : Type} {enc : TypeId × Value → H} {P : Program} {w : World} {base : Nat} {sp : Nat → Bool} {held : Bool} {fuel : Nat}
abbrev Wds(w:World)(words:List (BitVec 32))(A:Option Addr)(c:Nat):Prop:=words.length≤c∧c≤maxLen∧(100 < words.length→∃ b o,A=some ⟨b,o,none⟩)∧Lies w A (words.map u)
theorem words_of{t e:TypeId}{cs:List Value}{x:DataW H×List MemPlace}(ht:P.underlying t=some (.slice e))(he:P.underlying e=some (.int .u32))(hc:P.cellsOf e = 1)(hf:DataW.trod enc P w base sp held fuel t cs=some x) :
  ∃ (words:List (BitVec 32)) (A:Option Addr) (c:Nat),cs=[.slice A words.length c]∧Wds w words A c:=by
 rcases open_ints ht he hc hf with ⟨hcs,hx⟩ | ⟨a,len,cap,zs,hcs,-,hl,hm,hz,hx,hcell,hwf⟩
 ·subst hcs;exact ⟨[],none,0,rfl,Nat.le_refl _,by decide,fun h=>(by simp at h),Lies.nil _ _⟩
 ·subst hcs;have hle:len≤zs.length:=by rw [hz];split <;> omega
  have hlen:((zs.take len).map (BitVec.ofInt 32)).length=len:=by simp;omega
  have hL:Lies w (some a) (((zs.take len).map (BitVec.ofInt 32)).map u):=fun j v hj=>⟨a,rfl,by
   rw [List.map_map,List.getElem?_map,Option.map_eq_some_iff] at hj;obtain ⟨z,hs,rfl⟩:=hj;rw [List.getElem?_take] at hs;by_cases hj:j < len
   ·rw [if_pos hj] at hs;have hc:=hcell j (by omega);rw [List.getD_eq_getElem?_getD,hs] at hc;have hw:=hwf z (List.mem_of_getElem? hs);show w.cell? (a.add j)=some (u (BitVec.ofInt 32 z));rw [u32_of hw];exact hc
   ·rw [if_neg hj] at hs;cases hs⟩
  exact ⟨_,some a,cap,by rw [hlen],by rw [hlen];exact hl,hm,lies_plain hL,hL⟩
theorem words_arg{t e:TypeId}{v:Value}{d:DataW H}{ps:List MemPlace}(ht:P.underlying t=some (.slice e))(he:P.underlying e=some (.int .u32))(hc:P.cellsOf e = 1)(hv:∃ a l c,v = .slice a l c)(h:DataW.Trod enc P w base sp held t v d ps) :
  ∃ (words:List (BitVec 32)) (A:Option Addr) (c:Nat),v = .slice A words.length c∧words.length≤c∧c≤maxLen∧(100 < words.length→∃ b o,A=some ⟨b,o,none⟩)∧Lies w A (words.map u):=by
 obtain ⟨a0,l0,c0,rfl⟩:=hv;obtain ⟨fuel,hf⟩:=h;obtain ⟨words,A,c,hcs,h1,h2,h3,h4⟩:=words_of ht he hc hf;simp [Value.cells] at hcs;obtain ⟨rfl,rfl,rfl⟩:=hcs;exact ⟨words,_,_,rfl,h1,h2,h3,h4⟩
end
section
variable {H : Type} {enc : TypeId × Value → H} {w : World} {base : Nat} {sp : Nat → Bool} {held : Bool}
theorem two_arg{r:Reach}{b0:Nat}{v:Value}{d:DataW H}{p:List MemPlace}(hv:Value.okWide Tryz.prog w r b0 34 v)(h:DataW.Trod enc Tryz.prog w base sp held 34 v d p) :
  ∃ (xs:List (BitVec 32)) (A:Option Addr) (c:Nat) (ys:List (BitVec 32)) (B:Option Addr) (e:Nat),v = .agg #[.slice A xs.length c,.slice B ys.length e]∧xs.length≤c∧c≤maxLen∧(100 < xs.length→∃ b o,A=some ⟨b,o,none⟩)∧Lies w A (xs.map u) ∧
   ys.length≤e∧e≤maxLen∧(100 < ys.length→∃ b o,B=some ⟨b,o,none⟩)∧Lies w B (ys.map u):=by
 have hv':=hv;simp only [Value.okWide,Tryz.underlying34] at hv';obtain ⟨cs,rfl,hsz,_⟩:=hv';obtain ⟨fuel,hf⟩:=h;obtain ⟨ys,m,_,_,hlen,hyl,hel⟩:=DataW.trod_array Tryz.underlying34 hf;have c2:Tryz.prog.cellsOf 34 = 2:=by kernel_rfl
 have c1:Tryz.prog.cellsOf 29 = 1:=by kernel_rfl
 rw [c2] at hsz;obtain ⟨l⟩:=cs;have hl:l.length = 2:=by simpa using hsz
 have e0:=hel 0 (by decide);have e1:=hel 1 (by decide);simp only [c1,Value.cells] at e0 e1
 match l,hl,ys,hyl with
 | [x0,x1],_,[y0,y1],_=>
  simp at e0 e1;obtain ⟨s0,A,c,h0,k1,k2,k3,k4⟩:=words_of Tryz.underlying29 Tryz.underlying35 (by kernel_rfl) e0;obtain ⟨s1,B,e,h1,j1,j2,j3,j4⟩:=words_of Tryz.underlying29 Tryz.underlying35 (by kernel_rfl) e1;simp only [List.cons.injEq,and_true] at h0 h1;subst h0;subst h1;exact ⟨s0,A,c,s1,B,e,rfl,k1,k2,k3,k4,j1,j2,j3,j4⟩
end
end Go.Proofs.YtdhoemlomojfaaaGreatDoor.Ci
