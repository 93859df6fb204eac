/- DERIVED. CiSpec, CiArg, Mem, Upd, CiFn. By an AI agent. -/
import Derived.Test.YtdhoemlomojfaaaGreatDoorW01
import Derived.Test.YtdhoemlomojfaaaGreatDoorRows
import Derived.Deep.AppendLies
import Derived.OwnWalk
import Derived.RegionTactic
import Derived.Laws.BytesArg
import Derived.RangeFuncBox
import Derived.Deep.Cut
import Derived.Carry
import Derived.Test.YtdhoemlomojfaaaGreatDoorProg
set_option maxRecDepth 100000
set_option linter.unusedVariables false
set_option linter.unusedSimpArgs false
namespace Go.Proofs.YtdhoemlomojfaaaGreatDoor.Ci
open Go Args Word
structure Gt where
 k:Int
 a:Int
 b:Int
 n:BitVec 32
 s:Bool
abbrev Gt.cells(g:Gt):List Value:=[.int .i64 g.k,.int .i64 g.a,.int .i64 g.b,u g.n,.bool g.s]
abbrev gA(g:Gt):Value:=.agg #[.int .i64 g.k,.int .i64 g.a,.int .i64 g.b,u g.n,.bool g.s]
def tk(k:Int):Nat:=if k = 3∨k = 4∨k = 9∨k = 10∨k = 11 then 2 else if k = 5∨k = 6∨k = 7∨k = 8 then 1 else 0
def nmI(sc pb k:Int):Int:=if k = 0 then 4294967296 else if k = 1 then sc else if k = 2 then pb else if k = 6∨k = 7∨k = 8 then 32 else 1
def sG(l:List Gt)(i:Int):Bool:=(l[i.toNat]?).any (·.s)
def seB(l:List Gt)(g:Gt):Bool:=if tk g.k = 1 then sG l g.a else if tk g.k = 2 then (sG l g.a || sG l g.b) else decide (g.k = 1)
def plc(at_:Int)(i:Nat)(taken:Bool):Bool:=if taken=true then decide (0≤at_∧at_ < (i:Int)) else decide (at_ = 0)
def fiB(sc pb:Int)(l:List Gt)(i:Nat)(g:Gt):Bool:=
 decide (0≤g.k∧g.k < 12) && (plc g.a i (decide (0 < tk g.k)) && plc g.b i (decide (1 < tk g.k))) && (decide ((g.n.toNat:Int) < nmI sc pb g.k) && (g.s==seB l g))
def fiL(sc pb:Int)(l:List Gt)(i:Nat):Bool:=(l[i]?).all (fiB sc pb l i)
def cnt(n:Int):Bool:=decide (0≤n∧n≤1000)
def caB(sc pb:Int)(l:List Gt)(os:List TI):Bool:=
 cnt sc && cnt pb && decide (l.length≤8000) && (List.range l.length).all (fiL sc pb l) && os.all fun o=>decide (0≤o.n∧o.n < (l.length:Int))
theorem fiL_at{sc pb:Int}{l:List Gt}{i:Nat}{g:Gt}(h:l[i]?=some g):fiL sc pb l i=fiB sc pb l i g:=by unfold fiL;rw [h];rfl
theorem all_fi{sc pb:Int}{l:List Gt}(h:∀ i,i < l.length→fiL sc pb l i=true):(List.range l.length).all (fiL sc pb l)=true:=by
 rw [List.all_eq_true];intro i hi;exact h i (List.mem_range.1 hi)
theorem no_fi{sc pb:Int}{l:List Gt}{os:List TI}{i:Nat}(hi:i < l.length)(h:fiL sc pb l i=false):caB sc pb l os=false:=by
 have:(List.range l.length).all (fiL sc pb l)=false:=by
  rw [List.all_eq_false];exact ⟨i,List.mem_range.2 hi,by simp [h]⟩
 unfold caB;rw [this];simp
theorem ca_fi{sc pb:Int}{l:List Gt}{os:List TI}(h:caB sc pb l os=true){i:Nat}{g:Gt}(hg:l[i]?=some g):fiB sc pb l i g=true:=by
 unfold caB at h;simp only [Bool.and_eq_true] at h;rw [←fiL_at hg];exact List.all_eq_true.1 h.1.2 i (List.mem_range.2 (List.getElem?_eq_some_iff.1 hg).1)
theorem ca_out{sc pb:Int}{l:List Gt}{os:List TI}(h:caB sc pb l os=true){o:TI}(ho:o∈os):0≤o.n∧o.n < (l.length:Int):=by
 unfold caB at h;simp only [Bool.and_eq_true] at h;exact of_decide_eq_true (List.all_eq_true.1 h.2 o ho)
theorem ca_len{sc pb:Int}{l:List Gt}{os:List TI}(h:caB sc pb l os=true):l.length≤8000∧cnt sc=true∧cnt pb=true:=by
 unfold caB at h;simp only [Bool.and_eq_true,decide_eq_true_eq] at h;exact ⟨h.1.1.2,h.1.1.1.1,h.1.1.1.2⟩
def mdW(k:Int)(a b:BitVec 32)(n:BitVec 32):BitVec 32:=
 if k = 3 then a &&& b else if k = 4 then a ^^^ b else if k = 5 then ~~~a else if k = 6 then Word.shV 0 a n.toNat else if k = 7 then Word.shV 1 a n.toNat else if k = 8 then a.rotateLeft n.toNat else
 if k = 9 then a ||| b else if k = 10 then a+b else if k = 11 then a - b else 0
def wG(S P acc:List (BitVec 32))(g:Gt):BitVec 32:=if g.k = 0 then g.n else if g.k = 1 then S.getD g.n.toNat 0 else if g.k = 2 then P.getD g.n.toNat 0 else mdW g.k (acc.getD g.a.toNat 0) (acc.getD g.b.toNat 0) g.n
def wsF(S P:List (BitVec 32)):List Gt→List (BitVec 32)→List (BitVec 32)
 | [],acc=>acc
 | g :: l,acc=>wsF S P l (acc ++ [wG S P acc g])
theorem wsF_len(S P:List (BitVec 32)):∀ (l:List Gt) (acc:List (BitVec 32)),(wsF S P l acc).length=acc.length+l.length
 | [],acc=>rfl
 | g :: l,acc=>by unfold wsF;rw [wsF_len S P l];simp;omega
theorem wsF_snoc(S P:List (BitVec 32))(g:Gt):∀ (l:List Gt) (acc:List (BitVec 32)),wsF S P (l ++ [g]) acc=wsF S P l acc ++ [wG S P (wsF S P l acc) g]
 | [],acc=>rfl
 | x :: l,acc=>by
  show wsF S P (l ++ [g]) _=wsF S P l _ ++ [wG S P (wsF S P l _) g];exact wsF_snoc S P g l _
def wsT(S P:List (BitVec 32))(l:List Gt)(i:Nat):List (BitVec 32):=wsF S P (l.take i) []
theorem wsT_len{S P:List (BitVec 32)}{l:List Gt}{i:Nat}(h:i≤l.length):(wsT S P l i).length=i:=by unfold wsT;rw [wsF_len];simp;omega
theorem wsT_succ{S P:List (BitVec 32)}{l:List Gt}{i:Nat}{g:Gt}(h:l[i]?=some g):wsT S P l (i+1)=wsT S P l i ++ [wG S P (wsT S P l i) g]:=by
 obtain ⟨hi,rfl⟩:=List.getElem?_eq_some_iff.1 h;unfold wsT;rw [List.take_succ_eq_append_getElem hi];exact wsF_snoc S P _ _ _
def woL(S P:List (BitVec 32))(sc pb:Int)(l:List Gt)(os:List TI):List (BitVec 32):=if caB sc pb l os=true then wsT S P l l.length else []
def ouL(S P:List (BitVec 32))(sc pb:Int)(l:List Gt)(os:List TI):List (BitVec 32):=if caB sc pb l os=true then os.map fun o=>(wsT S P l l.length).getD o.n.toNat 0 else []
theorem plc_in{a:Int}{i:Nat}(h:plc a i true=true):a.toNat < i∧a=(a.toNat:Int):=by
 unfold plc at h;rw [if_pos rfl] at h;have:=of_decide_eq_true h;omega
theorem fi_parts{sc pb:Int}{l:List Gt}{i:Nat}{g:Gt}(h:fiB sc pb l i g=true) :
  (0≤g.k∧g.k < 12)∧plc g.a i (decide (0 < tk g.k))=true∧plc g.b i (decide (1 < tk g.k))=true∧(g.n.toNat:Int) < nmI sc pb g.k∧g.s=seB l g:=by
 unfold fiB at h;simp only [Bool.and_eq_true,decide_eq_true_eq,beq_iff_eq] at h;exact ⟨h.1.1,h.1.2.1,h.1.2.2,h.2.1,h.2.2⟩
theorem fi_ahead{sc pb:Int}{l:List Gt}{i:Nat}{g:Gt}(h:fiB sc pb l i g=true):(0 < tk g.k→g.a.toNat < i∧g.a=(g.a.toNat:Int))∧(1 < tk g.k→g.b.toNat < i∧g.b=(g.b.toNat:Int))∧(¬ 0 < tk g.k→g.a = 0)∧(¬ 1 < tk g.k→g.b = 0):=by
 obtain ⟨_,h1,h2,_⟩:=fi_parts h;refine ⟨fun ht=>?_,fun ht=>?_,fun ht=>?_,fun ht=>?_⟩
 ·rw [decide_eq_true ht] at h1;exact plc_in h1
 ·rw [decide_eq_true ht] at h2;exact plc_in h2
 ·rw [decide_eq_false ht] at h1;unfold plc at h1;simpa using h1
 ·rw [decide_eq_false ht] at h2;unfold plc at h2;simpa using h2
theorem tk_le(k:Int):tk k≤2:=by
 unfold tk;split
 ·omega
 ·split <;> omega
theorem tk_ge{k:Int}(h0:0≤k)(h:3≤k)(h1:k < 12):0 < tk k:=by
 unfold tk;split
 ·omega
 ·rw [if_pos (by omega)];omega
theorem tk_lt{k:Int}(h:k < 3)(h0:0≤k):tk k = 0:=by unfold tk;rw [if_neg (by omega),if_neg (by omega)]
theorem md_one{k:Int}{a b b' n:BitVec 32}(h:tk k = 1):mdW k a b n=mdW k a b' n:=by
 unfold tk at h;split at h
 ·cases h
 ·split at h
  ·rename_i h1;unfold mdW;rcases h1 with rfl | rfl | rfl | rfl <;> simp
  ·cases h
theorem sG_at{l:List Gt}{a:Int}(h:sG l a=false){g:Gt}(hg:l[a.toNat]?=some g):g.s=false:=by
 unfold sG at h;rw [hg] at h;simpa using h
theorem open_ws{sc pb:Int}{l:List Gt}{os:List TI}(h:caB sc pb l os=true)(S S' P:List (BitVec 32)):∀ (i:Nat),i≤l.length→∀ j,j < i→∀ g,l[j]?=some g→g.s=false→(wsT S P l i)[j]?=(wsT S' P l i)[j]?:=by
 intro i
 induction i with
 | zero=>intro _ j hj;omega
 | succ i ih=>
  intro hi j hj g hg hs;obtain ⟨x,hx⟩:∃ x,l[i]?=some x:=⟨_,List.getElem?_eq_getElem (by omega)⟩;rw [wsT_succ hx,wsT_succ hx];have e1:=wsT_len (S:=S) (P:=P) (l:=l) (i:=i) (by omega);have e2:=wsT_len (S:=S') (P:=P) (l:=l) (i:=i) (by omega);have look:∀ m,m < i→∀ y,l[m]?=some y→y.s=false→(wsT S P l i).getD m 0=(wsT S' P l i).getD m 0:=fun m hm y hy hys=>by
   rw [List.getD_eq_getElem?_getD,List.getD_eq_getElem?_getD,ih (by omega) m hm y hy hys]
  by_cases hji:j < i
  ·rw [List.getElem?_append_left (by omega),List.getElem?_append_left (by omega)];exact ih (by omega) j hji g hg hs
  ·obtain rfl:j=i:=by omega
   rw [hx] at hg;obtain rfl:=Option.some.inj hg;rw [List.getElem?_append_right (by omega),List.getElem?_append_right (by omega),e1,e2];simp only [Nat.sub_self,List.getElem?_cons_zero,Option.some.injEq];have hf:=ca_fi h hx;obtain ⟨hk,_,_,_,hse⟩:=fi_parts hf;obtain ⟨ha,hb,_,_⟩:=fi_ahead hf;rw [hs] at hse;unfold seB at hse;unfold wG;by_cases k0:x.k = 0
   ·rw [if_pos k0,if_pos k0]
   rw [if_neg k0,if_neg k0];by_cases k1:x.k = 1
   ·rw [if_neg (by rw [tk_lt (by omega) (by omega)];decide),if_neg (by rw [tk_lt (by omega) (by omega)];decide),decide_eq_true k1] at hse;cases hse
   rw [if_neg k1,if_neg k1];by_cases k2:x.k = 2
   ·rw [if_pos k2,if_pos k2]
   rw [if_neg k2,if_neg k2];have ht:=tk_ge hk.1 (show 3≤x.k by omega) hk.2;obtain ⟨ya,hya⟩:∃ y,l[x.a.toNat]?=some y:=⟨_,List.getElem?_eq_getElem (by have:=(ha ht).1;omega)⟩;by_cases t1:tk x.k = 1
   ·rw [if_pos t1] at hse;rw [look _ (ha ht).1 ya hya (sG_at hse.symm hya)];exact md_one t1
   ·have t2:tk x.k = 2:=by have:=tk_le x.k;omega
    rw [if_neg t1,if_pos t2] at hse;have hse':=hse.symm;rw [Bool.or_eq_false_iff] at hse';obtain ⟨yb,hyb⟩:∃ y,l[x.b.toNat]?=some y:=⟨_,List.getElem?_eq_getElem (by have:=(hb (by omega)).1;omega)⟩;rw [look _ (ha ht).1 ya hya (sG_at hse'.1 hya),look _ (hb (by omega)).1 yb hyb (sG_at hse'.2 hyb)]
end Go.Proofs.YtdhoemlomojfaaaGreatDoor.Ci
namespace Go.Proofs.YtdhoemlomojfaaaGreatDoor.Ci
open Go Go.ChangeShapes Go.WideShapes Go.ChangeAt Go.RowKit Args Word
structure Gts(w:World)(v:Value)(l:List Gt):Prop where
 ex:∃ A cap,v = .slice A l.length cap∧l.length≤cap∧cap≤maxLen∧Lies w A (l.flatMap Gt.cells)
 reach:l.length * 32≤140737488351232
theorem flat5(l:List Gt)(i:Nat)(g:Gt)(h:l[i]?=some g):∀ j,j < 5→(l.flatMap Gt.cells)[i * 5+j]?=g.cells[j]?:=by
 induction l generalizing i with
 | nil=>simp at h
 | cons d l ih=>
  intro j hj;cases i with
  | zero=>
   simp at h;subst h;rw [List.flatMap_cons,Nat.zero_mul,Nat.zero_add,List.getElem?_append_left (by simpa using hj)]
  | succ i=>
   simp at h;have:=ih i h j hj;rw [List.flatMap_cons,List.getElem?_append_right (by simp;omega)];rw [←this]
   congr 1
   simp only [List.length_cons,List.length_nil];omega
theorem flat5_len(l:List Gt):(l.flatMap Gt.cells).length=l.length * 5:=by
 induction l with
 | nil=>rfl
 | cons d l ih=>rw [List.flatMap_cons,List.length_append,ih];simp;omega
theorem flat5_in(l:List Gt)(j:Nat)(u:Value)(h:(l.flatMap Gt.cells)[j]?=some u):∃ i g r,l[i]?=some g∧r < 5∧j=i * 5+r∧g.cells[r]?=some u:=by
 have hj:j < (l.flatMap Gt.cells).length:=(List.getElem?_eq_some_iff.1 h).1;rw [flat5_len] at hj;have hi:j / 5 < l.length:=by omega
 refine ⟨j / 5,_,j % 5,List.getElem?_eq_getElem hi,by omega,by omega,?_⟩;rw [←flat5 l (j / 5) _ (List.getElem?_eq_getElem hi) (j % 5) (by omega),←h]
 congr 1
 omega
section
variable {H : Type} {enc : TypeId × Value → H} {w : World} {base : Nat} {spare : Nat → Bool} {held : Bool} {fuel : Nat}
theorem u32_of{z:Int}(hw:(Lit.int .u32 z).wf=true):u (BitVec.ofInt 32 z) = .int .u32 z:=by
 have hz2:((BitVec.ofInt 32 z).toNat:Int)=z:=by
  simp [Lit.wf,show IntKind.u32.min = 0 from rfl,show IntKind.u32.max = 4294967295 from rfl] at hw;rw [BitVec.toNat_ofInt];omega
 unfold u;rw [hz2]
theorem gts_of{cs:List Value}{x:DataW H×List MemPlace}
  (h:DataW.trod enc Tryz.prog w base spare held fuel 22 cs=some x) (hs:(x.1.weights Tryz.prog 22).all (·≤reachBytes)=true):∃ v l,cs=[v]∧Gts w v l:=by
 have ht:=Tryz.underlying22;have he:=Tryz.underlying37;have hc:Tryz.prog.cellsOf 37 = 5:=by kernel_rfl
 have hb:Tryz.prog.bytesOf 37 = 32:=by kernel_rfl
 have c1:Tryz.prog.cellsOf 3 = 1:=by kernel_rfl
 have c2:Tryz.prog.cellsOf 35 = 1:=by kernel_rfl
 have c3:Tryz.prog.cellsOf 4 = 1:=by kernel_rfl
 rcases DataW.trod_slice ht h with ⟨rfl,_⟩ | ⟨a,len,cap,elems,rest,n,_,rfl,rfl,hbl,hl,hm,hlen,hel,hsp,hns⟩
 ·exact ⟨_,[],rfl,⟨⟨none,0,rfl,Nat.le_refl _,by decide,Lies.nil _ _⟩,by simp⟩⟩
 ·simp only [DataW.weights,ht,List.all_cons,Bool.and_eq_true,decide_eq_true_eq,List.all_append] at hs;have each:∀ i,i < len→∃ g:Gt,∀ r,r < 5→w.cell? (a.add (i * 5+r))=g.cells[r]?:=fun i hi=>by
   have h1:=hel i hi;rw [hc] at h1;have hei:elems[i]?=some (elems[i]'(by omega)):=List.getElem?_eq_getElem (by omega);rw [hei,Option.bind_eq_some_iff] at h1;obtain ⟨cx,hcx,ht1⟩:=h1;obtain ⟨hcb,hcl,hat⟩:=World.cells?_some hcx;obtain ⟨ys,m,_,hx,_,hyl,hg⟩:=DataW.trod_struct he ht1;have g0:DataW.trod enc Tryz.prog w base spare held m 3 (List.take (Tryz.prog.cellsOf 3) (List.drop 0 cx))=ys[0]?:=hg 0 _ rfl;have g1:DataW.trod enc Tryz.prog w base spare held m 3 (List.take (Tryz.prog.cellsOf 3) (List.drop 1 cx))=ys[1]?:=hg 1 _ rfl;have g2:DataW.trod enc Tryz.prog w base spare held m 3 (List.take (Tryz.prog.cellsOf 3) (List.drop 2 cx))=ys[2]?:=hg 2 _ rfl;have g3:DataW.trod enc Tryz.prog w base spare held m 35 (List.take (Tryz.prog.cellsOf 35) (List.drop 3 cx))=ys[3]?:=hg 3 _ rfl;have g4:DataW.trod enc Tryz.prog w base spare held m 4 (List.take (Tryz.prog.cellsOf 4) (List.drop 4 cx))=ys[4]?:=hg 4 _ rfl;rw [c1] at g0 g1 g2;rw [c2] at g3;rw [c3] at g4
   match cx,hcl,ys,hyl with
   | [x0,x1,x2,x3,x4],_,[y0,y1,y2,y3,y4],_=>
    simp at g0 g1 g2 g3 g4;obtain ⟨z0,e0,_,_⟩:=DataW.trod_int Tryz.underlying3 g0;obtain ⟨z1,e1,_,_⟩:=DataW.trod_int Tryz.underlying3 g1;obtain ⟨z2,e2,_,_⟩:=DataW.trod_int Tryz.underlying3 g2;obtain ⟨z3,e3,_,w3⟩:=DataW.trod_int Tryz.underlying35 g3;obtain ⟨z4,e4,_⟩:=DataW.trod_bool Tryz.underlying4 g4;simp at e0 e1 e2 e3 e4;subst e0 e1 e2 e3 e4;refine ⟨⟨z0,z1,z2,BitVec.ofInt 32 z3,z4⟩,fun r hr=>?_⟩;have ar:=hat r (by omega);rw [add_add] at ar;rw [ar]
    match r,hr with
    | 0,_=>rfl
    | 1,_=>rfl
    | 2,_=>rfl
    | 3,_=>show some (Value.int .u32 z3)=some (u (BitVec.ofInt 32 z3));rw [u32_of w3]
    | 4,_=>rfl
  let l:List Gt:=(List.range len).map fun i=>if hi:i < len then (each i hi).choose else ⟨0,0,0,0,false⟩
  have hzl:l.length=len:=by simp [l]
  have hzi:∀ i g,l[i]?=some g→∀ r,r < 5→w.cell? (a.add (i * 5+r))=g.cells[r]?:=fun i g hz=>by
   have hi:i < len:=by rw [←hzl];exact (List.getElem?_eq_some_iff.1 hz).1
   have:g=(each i hi).choose:=by
    simp only [l,List.getElem?_map,List.getElem?_range hi,Option.map_some,Option.some.injEq,dif_pos hi] at hz;exact hz.symm
   rw [this];exact (each i hi).choose_spec
  refine ⟨_,l,rfl,⟨⟨some a,cap,by rw [hzl],by omega,hm,fun j u hj=>?_⟩,?_⟩⟩
  ·obtain ⟨i,g,r,hi,hr,rfl,hu⟩:=flat5_in l j u hj;exact ⟨a,rfl,(hzi i g hi r hr).trans hu⟩
  ·rw [hzl];have h1:=hs.1;simp only [List.length_map] at h1;rw [hb,hlen] at h1;unfold reachBytes at h1;have:len * 32≤(len+rest.length) * 32:=Nat.mul_le_mul_right 32 (by omega);omega
theorem outs_of{cs:List Value}{x:DataW H×List MemPlace}
  (h:DataW.trod enc Tryz.prog w base spare held fuel 23 cs=some x) (hs:(x.1.weights Tryz.prog 23).all (·≤reachBytes)=true):∃ v l,cs=[v]∧TIs w v l:=
 tis_of Tryz.underlying23 Tryz.underlying43 (by kernel_rfl) (by kernel_rfl) ⟨rfl,rfl,rfl,rfl⟩ Tryz.underlying9 Tryz.underlying3 (by kernel_rfl) (by kernel_rfl) h hs
end
abbrev crB(A:Option Addr)(n cA:Nat)(sc pb:Int)(B:Option Addr)(m cB:Nat):Array Value:=#[.slice A n cA,.int .i64 sc,.int .i64 pb,.slice B m cB]
abbrev crV(A:Option Addr)(n cA:Nat)(sc pb:Int)(B:Option Addr)(m cB:Nat):Value:=.agg (crB A n cA sc pb B m cB)
structure Cir(w:World)(A:Option Addr)(cA:Nat)(B:Option Addr)(cB:Nat)(l:List Gt)(os:List TI):Prop where
 gs:Lies w A (l.flatMap Gt.cells)
 ou:Lies w B (os.flatMap TI.cells)
 cA:l.length≤cA∧cA≤maxLen
 cB:os.length≤cB∧cB≤maxLen
 rA:l.length * 32≤140737488351232
 rB:os.length * 24≤140737488351232
theorem Cir.below{w w':World}{A:Option Addr}{cA:Nat}{B:Option Addr}{cB:Nat}{l:List Gt}{os:List TI}(h:Cir w A cA B cB l os)(hb:Below w.heap.size w w'):Cir w' A cA B cB l os:=
 ⟨h.gs.below hb,h.ou.below hb,h.cA,h.cB,h.rA,h.rB⟩
theorem Cir.gate{w:World}{A:Option Addr}{cA:Nat}{B:Option Addr}{cB:Nat}{l:List Gt}{os:List TI}(h:Cir w A cA B cB l os){i:Nat}{g:Gt}(hg:l[i]?=some g) :
  ∃ b o,A=some ⟨b,o,none⟩∧b < w.heap.size∧w.cell? ⟨b,o+i * 5,none⟩=some (.int .i64 g.k)∧w.cell? ⟨b,o+i * 5+1,none⟩=some (.int .i64 g.a)∧w.cell? ⟨b,o+i * 5+2,none⟩=some (.int .i64 g.b)∧w.cell? ⟨b,o+i * 5+3,none⟩=some (u g.n)∧w.cell? ⟨b,o+i * 5+4,none⟩=some (.bool g.s):=by
 have f:=flat5 l i g hg;obtain ⟨b,o,hA,hlt,hc⟩:=h.gs.at_ (f 0 (by decide));refine ⟨b,o,hA,hlt,hc _ _ (f 0 (by decide)),?_,?_,?_,?_⟩
 ·exact hc _ _ (f 1 (by decide))
 ·exact hc _ _ (f 2 (by decide))
 ·exact hc _ _ (f 3 (by decide))
 ·exact hc _ _ (f 4 (by decide))
theorem Cir.out{w:World}{A:Option Addr}{cA:Nat}{B:Option Addr}{cB:Nat}{l:List Gt}{os:List TI}(h:Cir w A cA B cB l os){i:Nat}{o:TI}(ho:os[i]?=some o) :
  ∃ b p,B=some ⟨b,p,none⟩∧b < w.heap.size∧w.cell? ⟨b,p+i * 2,none⟩=some (.string o.s)∧w.cell? ⟨b,p+i * 2+1,none⟩=some (.int .i64 o.n):=by
 obtain ⟨f0,f1⟩:=flat2 os i o ho;obtain ⟨b,p,hB,hlt,hc⟩:=h.ou.at_ f0;exact ⟨b,p,hB,hlt,hc _ _ f0,hc _ _ f1⟩
theorem cir_of{H:Type}{enc:TypeId×Value→H}{W:World}{r:Reach}{b0 base:Nat}{spare:Nat→Bool}{held:Bool}{v:Value}{d:DataW H}{p:List MemPlace}
  (hv:Value.okWide Tryz.prog W r b0 25 v) (h:DataW.Trod enc Tryz.prog W base spare held 25 v d p) (hs:(d.weights Tryz.prog 25).all (·≤reachBytes)=true) :
  ∃ A cA sc pb B cB l os,v=crV A l.length cA sc pb B os.length cB∧Cir W A cA B cB l os:=by
 obtain ⟨cs,rfl,hsz⟩:=okWide_struct Tryz.underlying25 hv;obtain ⟨fuel,hfu⟩:=h;obtain ⟨xs,n,_,hx,_,hlen,hg⟩:=DataW.trod_struct Tryz.underlying25 hfu;have g0:DataW.trod enc Tryz.prog W base spare held n 22 (List.take (Tryz.prog.cellsOf 22) (List.drop 0 (Value.agg cs).cells.toList))=xs[0]?:=hg 0 _ rfl;have g1:DataW.trod enc Tryz.prog W base spare held n 3 (List.take (Tryz.prog.cellsOf 3) (List.drop 1 (Value.agg cs).cells.toList))=xs[1]?:=hg 1 _ rfl;have g2:DataW.trod enc Tryz.prog W base spare held n 3 (List.take (Tryz.prog.cellsOf 3) (List.drop 2 (Value.agg cs).cells.toList))=xs[2]?:=hg 2 _ rfl;have g3:DataW.trod enc Tryz.prog W base spare held n 23 (List.take (Tryz.prog.cellsOf 23) (List.drop 3 (Value.agg cs).cells.toList))=xs[3]?:=hg 3 _ rfl;have c1:Tryz.prog.cellsOf 3 = 1:=by kernel_rfl
 have c2:Tryz.prog.cellsOf 22 = 1:=by kernel_rfl
 have c3:Tryz.prog.cellsOf 23 = 1:=by kernel_rfl
 have c7:Tryz.prog.cellsOf 25 = 4:=by kernel_rfl
 rw [c7] at hsz;rw [c1] at g1 g2;rw [c2] at g0;rw [c3] at g3;obtain ⟨l⟩:=cs;have hl:l.length = 4:=by simpa using hsz
 match l,hl,xs,hlen with
 | [x0,x1,x2,x3],_,[y0,y1,y2,y3],_=>
  simp [Value.cells] at g0 g1 g2 g3;have hd:d = .agg [y0.1,y1.1,y2.1,y3.1]:=(Prod.mk.inj hx).1;rw [hd] at hs;simp only [DataW.weights,Tryz.underlying25] at hs;have w0:=all_weights hs;have w1:=(all_weights w0.2).2;have w3:=all_weights (all_weights w1).2;obtain ⟨a1,e1,_,f1⟩:=DataW.trod_int Tryz.underlying3 g1;obtain ⟨a2,e2,_,f2⟩:=DataW.trod_int Tryz.underlying3 g2;obtain ⟨v0,l0,e0,t0⟩:=gts_of g0 w0.1;obtain ⟨v3,l3,e3,t3⟩:=outs_of g3 w3.1;simp at e0 e1 e2 e3;subst e0 e1 e2 e3;obtain ⟨⟨A,cA,rfl,h1,h2,h3⟩,h4⟩:=t0;obtain ⟨⟨B,cB,rfl,h5,h6,h7⟩,_,_,h8⟩:=t3;exact ⟨A,cA,a1,a2,B,cB,l0,l3,rfl,⟨h3,h7,⟨h1,h2⟩,⟨h5,h6⟩,h4,h8⟩⟩
end Go.Proofs.YtdhoemlomojfaaaGreatDoor.Ci
namespace Go.Proofs.YtdhoemlomojfaaaGreatDoor.Args
open Go Go.ChangeShapes Go.WideShapes Go.ChangeAt Go.RowKit
def Sl(w:World)(v:Value)(n:Nat)(xs:List Value):Prop:=∃ A c,v = .slice A n c∧n≤c∧c≤maxLen∧Lies w A xs
theorem Sl.below{w w':World}{v:Value}{n:Nat}{xs:List Value}(h:Sl w v n xs)(hb:Below w.heap.size w w'):Sl w' v n xs:=by
 obtain ⟨A,c,e,h1,h2,h3⟩:=h;exact ⟨A,c,e,h1,h2,h3.below hb⟩
theorem Sl.drew{w:World}{v:Value}{n:Nat}{xs:List Value}(h:Sl w v n xs):Sl w.drew v n xs:=h
theorem lies_own{w:World}{base:Nat}{e:TypeId}{size n c:Nat}{A:Option Addr}{xs:List Value}(h:w.ownsRow base e size (.slice A n c) n xs):Lies w A xs:=by
 rcases h.2 with ⟨e1,rfl⟩ | ⟨g,cap,cur,e1,_⟩
 ·have:xs=[]:=List.eq_nil_of_length_eq_zero (by simpa using h.1);subst this;exact Lies.nil _ _
 ·injection e1 with e1 e2 e3
  subst e1;exact fun j u hj=>⟨_,rfl,h.cells (g:=g) rfl j u hj⟩
theorem sl_own{w:World}{base:Nat}{e:TypeId}{size n:Nat}{v:Value}{xs:List Value}(h:w.ownsRow base e size v n xs):Sl w v n xs:=by
 rcases h.2 with ⟨rfl,rfl⟩ | ⟨g,cap,cur,rfl,_,_,h1,h2,_⟩
 ·exact ⟨none,0,rfl,Nat.le_refl _,by decide,lies_own h⟩
 ·exact ⟨_,cap,rfl,h1,h2,lies_own h⟩
section
variable {P : Program} {w : World}
theorem own_empty(w:World){base:Nat}(hb:base≤w.heap.size)(e:TypeId)(size:Nat):(w.alloc (.cells #[] e)).ownsRow base e size (.slice (some ⟨w.heap.size,0,none⟩) 0 0) 0 []:=
 World.ownsRow_made w #[] 0 hb (by decide) (by simp)
end
structure Upd(X:Nat→Prop)(w w':World):Prop where
 os:w'.os=w.os
 tape:w'.tape=w.tape
 output:w'.output=w.output
 size:w.heap.size≤w'.heap.size
 block:∀ k,k < w.heap.size→¬ X k→w'.heap[k]?=w.heap[k]?
section
variable {X Y : Nat → Prop} {w w1 w' : World}
theorem Upd.refl(X:Nat→Prop)(w:World):Upd X w w:=⟨rfl,rfl,rfl,Nat.le_refl _,fun _ _ _=>rfl⟩
theorem Upd.trans(h:Upd X w w1)(k:Upd X w1 w'):Upd X w w':=
 ⟨k.os.trans h.os,k.tape.trans h.tape,k.output.trans h.output,Nat.le_trans h.size k.size,fun i hi hx=>(k.block i (Nat.lt_of_lt_of_le hi h.size) hx).trans (h.block i hi hx)⟩
theorem Upd.mono(h:Upd X w w')(hXY:∀ k,X k→Y k):Upd Y w w':=⟨h.os,h.tape,h.output,h.size,fun i hi hx=>h.block i hi fun hq=>hx (hXY i hq)⟩
theorem Upd.fresh(h:Upd X w w')(hX:∀ k,X k→k < w.heap.size→Y k):Upd Y w w':=⟨h.os,h.tape,h.output,h.size,fun i hi hx=>h.block i hi fun hq=>hx (hX i hq hi)⟩
theorem Upd.drew(h:Upd X w w'):Upd X w w'.drew:=⟨h.os,h.tape,h.output,h.size,h.block⟩
theorem Upd.drewN(h:Upd X w w')(n:Nat):Upd X w (w'.drewN n):=⟨h.os,h.tape,h.output,h.size,h.block⟩
theorem Upd.alloc(h:Upd X w w')(o:Obj):Upd X w (w'.alloc o):=
 ⟨h.os,h.tape,h.output,by simp;exact Nat.le_succ_of_le h.size,fun i hi hx=>(Below.heap_alloc w' o i (Nat.lt_of_lt_of_le hi h.size)).trans (h.block i hi hx)⟩
theorem Upd.setCell(h:Upd X w w'){p:Addr}(hp:p.block < w.heap.size→X p.block)(u:Value):Upd X w (w'.setCell p u):=
 ⟨h.os,h.tape,h.output,by have:=(Below.setCell (p:=p) (Below.refl 0 w') (Nat.zero_le _) u).size;exact Nat.le_trans h.size this,fun i hi hx=>(Below.heap_setCell w' p u i (fun e=>hx (by subst e;exact hp hi))).trans (h.block i hi hx)⟩
theorem Upd.of_below(h:Below w.heap.size w w')(X:Nat→Prop):Upd X w w':=⟨h.os,h.tape,h.output,h.size,fun i hi _=>h.block i hi⟩
theorem Upd.below(h:Upd X w w'){B:Nat}(hB:B≤w.heap.size)(hX:∀ k,X k→B≤k):Below B w w':=
 ⟨h.os,h.tape,h.output,h.size,fun i hi=>h.block i (Nat.lt_of_lt_of_le hi hB) fun hx=>by have:=hX i hx;omega⟩
theorem Upd.grown(h:Upd X w w1){row:Option Nat}(hg:w1.grownBy w' row)(hr:∀ k,row=some k→k < w.heap.size→X k):Upd X w w':=
 ⟨hg.os.trans h.os,hg.tape.trans h.tape,hg.output.trans h.output,Nat.le_trans h.size hg.size,fun i hi hx=>(hg.block i (Nat.lt_of_lt_of_le hi h.size) fun e=>hx (hr i e.symm hi)).trans (h.block i hi hx)⟩
theorem Upd.cell(h:Upd X w w'){p:Addr}(hp:p.block < w.heap.size)(hx:¬ X p.block):w'.cell? p=w.cell? p:=World.cell?_of_block (h.block _ hp hx)
theorem Upd.lies(h:Upd X w w'){A:Option Addr}{xs:List Value}(hL:Lies w A xs)(hA:∀ b o,A=some ⟨b,o,none⟩→0 < xs.length→¬ X b):Lies w' A xs:=fun j u hj=>by
 obtain ⟨b,o,rfl,hb,hc⟩:=hL.at_ hj;refine ⟨_,rfl,?_⟩;rw [Args.add_plain];exact (h.cell (p:=⟨b,o+j,none⟩) hb (hA b o rfl (by have:=(List.getElem?_eq_some_iff.1 hj).1;omega))).trans (hc j u hj)
end
def Blk(w:World)(g:Nat)(t:TypeId)(cs:Array Value):Prop:=w.heap[g]?=some (.cells cs t (0,0))
section
variable {X : Nat → Prop} {w w' : World} {g : Nat} {t : TypeId} {cs : Array Value}
theorem Blk.lt(h:Blk w g t cs):g < w.heap.size:=(Array.getElem?_eq_some_iff.1 h).1
theorem Blk.cell(h:Blk w g t cs)(i:Nat):w.cell? ⟨g,i,none⟩=cs[i]?:=cell_of_row w g i cs t (0,0) h
theorem Blk.frozen(h:Blk w g t cs)(i:Nat):w.frozen? ⟨g,i,none⟩=false:=by
 unfold Blk at h;simp [World.frozen?,h]
theorem Blk.new(w:World)(t:TypeId)(cs:Array Value):Blk (w.alloc (.cells cs t)) w.heap.size t cs:=heap_alloc_new w _
theorem Blk.set(h:Blk w g t cs)(i:Nat)(u:Value):Blk (w.setCell ⟨g,i,none⟩ u) g t (cs.setIfInBounds i u):=by
 unfold Blk at h ⊢;simp [World.setCell,Array.getElem?_modify,h]
theorem Blk.far(h:Blk w g t cs){p:Addr}(hp:g≠p.block)(u:Value):Blk (w.setCell p u) g t cs:=(Below.heap_setCell w p u g hp).trans h
theorem Blk.drew(h:Blk w g t cs):Blk w.drew g t cs:=h
theorem Blk.alloc(h:Blk w g t cs)(o:Obj):Blk (w.alloc o) g t cs:=(Below.heap_alloc w o g h.lt).trans h
theorem Blk.upd(h:Blk w g t cs)(hu:Upd X w w')(hx:¬ X g):Blk w' g t cs:=(hu.block g h.lt hx).trans h
theorem Blk.below{B:Nat}(h:Blk w g t cs)(hb:Below B w w')(hg:g < B):Blk w' g t cs:=(hb.block g hg).trans h
end
end Go.Proofs.YtdhoemlomojfaaaGreatDoor.Args
namespace Go.Proofs.YtdhoemlomojfaaaGreatDoor.Ci
open Go Go.ChangeShapes Go.WideShapes Go.ChangeAt Go.RowKit Args WMath Word
theorem tk_cases(k:Int):(k = 5∨k = 6∨k = 7∨k = 8∨k = 3∨k = 4∨k = 9∨k = 10∨k = 11)∨(¬ k = 5∧¬ k = 6∧¬ k = 7∧¬ k = 8∧¬ k = 3∧¬ k = 4∧¬ k = 9∧¬ k = 10∧¬ k = 11):=by omega
theorem tk_none{k:Int}(h:¬ k = 5∧¬ k = 6∧¬ k = 7∧¬ k = 8∧¬ k = 3∧¬ k = 4∧¬ k = 9∧¬ k = 10∧¬ k = 11):tk k = 0:=by unfold tk;rw [if_neg (by omega),if_neg (by omega)]
theorem takes(w:World)(k:Int):Calls Tryz.prog 28 #[.int .i64 k] w fun e w'=>e = .returned (.int .i64 (tk k:Int))∧w'=w:=by
 rcases tk_cases k with (rfl | rfl | rfl | rfl | rfl | rfl | rfl | rfl | rfl) | h
 all_goals try (go_enter Tryz.func28,Tryz.ntmps28;go_wp2_with fail;go_ret;exact ⟨rfl,rfl⟩)
 rw [tk_none h];obtain ⟨h1,h2,h3,h4,h5,h6,h7,h8,h9⟩:=h;go_enter Tryz.func28,Tryz.ntmps28;go_wp2_with fail
 go_ret;exact ⟨rfl,rfl⟩
theorem isCount(w:World)(n:Int):Calls Tryz.prog 17 #[.int .i64 n] w fun e w'=>e = .returned (.bool (cnt n))∧w'=w:=by
 unfold cnt;by_cases h0:0≤n
 ·by_cases h1:n≤1000
  ·rw [decide_eq_true ⟨h0,h1⟩];go_enter Tryz.func17,Tryz.ntmps17;go_wp2_with fail
   go_ret;exact ⟨rfl,rfl⟩
  ·rw [decide_eq_false (fun h=>h1 h.2)];go_enter Tryz.func17,Tryz.ntmps17;go_wp2_with fail
   go_ret;exact ⟨rfl,rfl⟩
 ·rw [decide_eq_false (fun h=>h0 h.1)];go_enter Tryz.func17,Tryz.ntmps17;go_wp2_with fail
  go_ret;exact ⟨rfl,rfl⟩
theorem isAhead(w:World)(a n:Int):Calls Tryz.prog 21 #[.int .i64 a,.int .i64 n] w fun e w'=>e = .returned (.bool (decide (0≤a∧a < n)))∧w'=w:=by
 by_cases h0:0≤a
 ·by_cases h1:a < n
  ·rw [decide_eq_true ⟨h0,h1⟩];go_enter Tryz.func21,Tryz.ntmps21;go_wp2_with fail
   go_ret;exact ⟨rfl,rfl⟩
  ·rw [decide_eq_false (fun h=>h1 h.2)];go_enter Tryz.func21,Tryz.ntmps21;go_wp2_with fail
   go_ret;exact ⟨rfl,rfl⟩
 ·rw [decide_eq_false (fun h=>h0 h.1)];go_enter Tryz.func21,Tryz.ntmps21;go_wp2_with fail
  go_ret;exact ⟨rfl,rfl⟩
theorem isPlace(w:World)(a:Int)(i:Nat)(t:Bool):Calls Tryz.prog 29 #[.int .i64 a,.int .i64 (i:Int),.bool t] w fun e w'=>e = .returned (.bool (plc a i t))∧w'=w:=by
 have HA:=Hi (isAhead w a (i:Int));cases t with
 | true=>
  rw [show plc a i true=decide (0≤a∧a < (i:Int)) from if_pos rfl];generalize decide (0≤a∧a < (i:Int))=r at HA ⊢;go_enter Tryz.func29,Tryz.ntmps29;go_wp2_with fail
  refine (show Calls Tryz.prog 21 #[.int .i64 a,.int .i64 (i:Int)] w _ from HA.out).mono ?_;rintro e w' ⟨rfl,rfl⟩;go_wp2_with fail
  go_ret;exact ⟨rfl,rfl⟩
 | false=>
  rw [show plc a i false=decide (a = 0) from if_neg (by decide)];by_cases h:a = 0
  ·subst h;go_enter Tryz.func29,Tryz.ntmps29;go_wp2_with fail
   go_ret;exact ⟨rfl,rfl⟩
  ·rw [decide_eq_false h];have hz:(a==0)=false:=by simp [h]
   go_enter Tryz.func29,Tryz.ntmps29;go_wp2_with fail
   go_ret;exact ⟨rfl,rfl⟩
theorem c_box(w:World)(cs:Array Value):∃ w1,w.alloc (.cells cs 25)=w1∧Below w.heap.size w w1∧Blk w1 w.heap.size 25 cs∧w1.heap.size=w.heap.size+1:=
 ⟨_,rfl,(Below.refl _ _).alloc (Nat.le_refl _) _,Blk.new _ _ _,by simp⟩
theorem g_box(w:World)(cs:Array Value):∃ w1,w.alloc (.cells cs 37)=w1∧Below w.heap.size w w1∧Blk w1 w.heap.size 37 cs∧w1.heap.size=w.heap.size+1:=
 ⟨_,rfl,(Below.refl _ _).alloc (Nat.le_refl _) _,Blk.new _ _ _,by simp⟩
abbrev gB(g:Gt):Array Value:=#[.int .i64 g.k,.int .i64 g.a,.int .i64 g.b,u g.n,.bool g.s]
theorem Blk.c4{w:World}{g:Nat}{t:TypeId}{a b c d:Value}(h:Blk w g t #[a,b,c,d]):w.cell? ⟨g,0,none⟩=some a∧w.cell? ⟨g,1,none⟩=some b∧w.cell? ⟨g,2,none⟩=some c∧w.cell? ⟨g,3,none⟩=some d∧w.frozen? ⟨g,0,none⟩=false∧w.frozen? ⟨g,1,none⟩=false∧w.frozen? ⟨g,2,none⟩=false∧w.frozen? ⟨g,3,none⟩=false:=
 ⟨h.cell 0,h.cell 1,h.cell 2,h.cell 3,h.frozen 0,h.frozen 1,h.frozen 2,h.frozen 3⟩
theorem Blk.c5{w:World}{g:Nat}{t:TypeId}{a b c d e:Value}(h:Blk w g t #[a,b,c,d,e]):(w.cell? ⟨g,0,none⟩=some a∧w.cell? ⟨g,1,none⟩=some b∧w.cell? ⟨g,2,none⟩=some c∧w.cell? ⟨g,3,none⟩=some d∧w.cell? ⟨g,4,none⟩=some e) ∧
  w.frozen? ⟨g,0,none⟩=false∧w.frozen? ⟨g,1,none⟩=false∧w.frozen? ⟨g,2,none⟩=false∧w.frozen? ⟨g,3,none⟩=false∧w.frozen? ⟨g,4,none⟩=false:=
 ⟨⟨h.cell 0,h.cell 1,h.cell 2,h.cell 3,h.cell 4⟩,h.frozen 0,h.frozen 1,h.frozen 2,h.frozen 3,h.frozen 4⟩
theorem nm_nat{sc pb:Int}(h1:cnt sc=true)(h2:cnt pb=true)(k:Int):0≤nmI sc pb k∧nmI sc pb k≤4294967296:=by
 unfold cnt at h1 h2;simp only [decide_eq_true_eq] at h1 h2;unfold nmI
 repeat' split
 all_goals omega
theorem nm_cases(k:Int):(k = 0∨k = 1∨k = 2∨k = 6∨k = 7∨k = 8)∨(¬ k = 0∧¬ k = 1∧¬ k = 2∧¬ k = 6∧¬ k = 7∧¬ k = 8):=by omega
theorem nm_else{sc pb k:Int}(h:¬ k = 0∧¬ k = 1∧¬ k = 2∧¬ k = 6∧¬ k = 7∧¬ k = 8):nmI sc pb k = 1:=by
 unfold nmI;rw [if_neg h.1,if_neg h.2.1,if_neg h.2.2.1,if_neg (by omega)]
theorem numbers(w:World)(A:Option Addr)(n cA:Nat)(sc pb:Int)(B:Option Addr)(m cB:Nat)(h1:cnt sc=true)(h2:cnt pb=true)(k:Int) :
  Calls Tryz.prog 30 #[crV A n cA sc pb B m cB,.int .i64 k] w fun e w'=>e = .returned (.int .u64 (nmI sc pb k))∧Below w.heap.size w w':=by
 obtain ⟨w1,hw1,hb1,hX1,hs1⟩:=c_box w (crB A n cA sc pb B m cB);obtain ⟨e0,e1,e2,e3,z0,z1,z2,z3⟩:=Blk.c4 hX1;have hgl:=hX1.lt;have HB:=Hi hb1;have HW:=Hi hw1;unfold cnt at h1 h2;have h1':=of_decide_eq_true h1;have h2':=of_decide_eq_true h2;obtain ⟨a1,a2⟩:=h1';obtain ⟨a3,a4⟩:=h2';have a5:sc % 18446744073709551616=sc:=Int.emod_eq_of_lt a1 (by omega);have a6:pb % 18446744073709551616=pb:=Int.emod_eq_of_lt a3 (by omega);clear hw1 hb1 hX1 hs1 h1 h2;rcases nm_cases k with (rfl | rfl | rfl | rfl | rfl | rfl) | h
 ·go_enter Tryz.func30,Tryz.ntmps30;go_upto_region 1 with fail
  rw [HW.out];go_wp2_with fail
  go_ret;exact ⟨rfl,HB.out⟩
 ·rw [show nmI sc pb 1=sc from rfl];go_enter Tryz.func30,Tryz.ntmps30;go_upto_region 1 with fail
  rw [HW.out];go_wp2_with fail
  go_ret;exact ⟨rfl,HB.out⟩
 ·rw [show nmI sc pb 2=pb from rfl];go_enter Tryz.func30,Tryz.ntmps30;go_upto_region 1 with fail
  rw [HW.out];go_wp2_with fail
  go_ret;exact ⟨rfl,HB.out⟩
 ·go_enter Tryz.func30,Tryz.ntmps30;go_upto_region 1 with fail
  rw [HW.out];go_wp2_with fail
  go_ret;exact ⟨rfl,HB.out⟩
 ·go_enter Tryz.func30,Tryz.ntmps30;go_upto_region 1 with fail
  rw [HW.out];go_wp2_with fail
  go_ret;exact ⟨rfl,HB.out⟩
 ·go_enter Tryz.func30,Tryz.ntmps30;go_upto_region 1 with fail
  rw [HW.out];go_wp2_with fail
  go_ret;exact ⟨rfl,HB.out⟩
 ·rw [nm_else h];obtain ⟨g1,g2,g3,g4,g5,g6⟩:=h;go_enter Tryz.func30,Tryz.ntmps30;go_upto_region 1 with fail
  rw [HW.out];go_wp2_with fail
  go_ret;exact ⟨rfl,HB.out⟩
end Go.Proofs.YtdhoemlomojfaaaGreatDoor.Ci
