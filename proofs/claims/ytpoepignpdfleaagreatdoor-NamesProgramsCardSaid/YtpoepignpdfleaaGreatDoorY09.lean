/- DERIVED. NmRu, ShMade, NmRef. By an AI agent. -/
import Derived.Test.YtpoepignpdfleaaGreatDoorY01
import Derived.Test.YtpoepignpdfleaaGreatDoorY08
import Derived.Test.YtpoepignpdfleaaGreatDoorY03
import Derived.Test.YtpoepignpdfleaaGreatDoorY02
set_option maxRecDepth 100000
set_option maxHeartbeats 1000000
namespace Go.Proofs.YtpoepignpdfleaaGreatDoor.Nm
open Go Go.ChangeShapes Go.WideShapes Go.ChangeAt Go.RowKit Lx Args Pa Sh
set_option linter.unusedVariables false
set_option linter.unusedSimpArgs false
theorem small(z:Tz)(w:World)(k a:Int)(s:Bs)(n:Nat)(A:Option Addr)(la cA:Nat)(B:Option Addr)(lb cB:Nat)(hT:TIz w z (nzC k a s n A la cA B lb cB)) :
  Calls Tryz.prog 11 #[nzA k a s n A la cA B lb cB] w fun e w'=>e = .returned (.bool (decide (pa 300 3000 z≤3000)))∧Below w.heap.size w w':=by
 obtain ⟨w1,hw1,hb1,hX1,hs1⟩:=a_box w (nB k a s n A la cA B lb cB)
 have HP:=Hi (rparts (SizeOf.sizeOf z+1) z (Nat.lt_succ_self _) w1 k a s n A la cA B lb cB 300 3000 (by decide) (by decide) (TIz.below hb1 hT))
 have hpl:=pa_le z 300 3000
 have HW:=Hi hw1;have HB1:=Hi hb1
 generalize pa 300 3000 z=np at *
 clear hT hw1 hb1 hX1 hs1
 obtain ⟨bn,hbn⟩:∃ bn:Bool,decide (np≤3000)=bn:=⟨_,rfl⟩
 have hbi:decide ((np:Int)≤3000)=bn:=by rw [←hbn];congr 1;simp only [eq_iff_iff];omega
 rw [hbn]
 clear hpl
 go_enter Tryz.func11,Tryz.ntmps11
 go_wp2_with fail
 rw [HW.out]
 refine (show Calls Tryz.prog 20 #[nzA k a s n A la cA B lb cB,.int .i64 300,.int .i64 3000] w1 _ from HP.out).mono ?_
 rintro e w2 ⟨rfl,hb2⟩
 have HB2:=Hi (HB1.out.trans (hb2.mono HB1.out.size))
 clear hb2
 go_wp2_with fail
 go_ret
 exact ⟨by first | rfl | (simp [hbn];done) | (simp [hbi];done),HB2.out⟩
theorem in_big(A:Option Addr)(c:Nat)(l:List Bs)(s:ByteArray)(w:World)(hA:Lies w A (strs l))(hl:l.length≤maxLen) :
  Calls Tryz.prog 24 #[.slice A l.length c,.string s] w fun e w'=>e = .returned (.bool (l.contains s.data.toList))∧w=w':=by
 have hlm:l.length≤9223372036854775807:=hl
 have hin:=inL l s.data.toList
 have HA:=Hi hA;have HIN:=Hi hin
 clear hA hin hl
 generalize hb:l.contains s.data.toList=b at *
 have HB:=Hi hb
 clear hb
 go_enter Tryz.func24,Tryz.ntmps24
 go_wp2_with fail
 go_loop [5] (fun vi=>∃ k:Nat,k≤l.length∧vi = .int .i64 k∧Hid (∀ j,j < k→l[j]?≠some s.data.toList)) (fun vi=>l.length - (intOf vi).toNat)
 case atStart=>exact ⟨0,by omega,rfl,Hi fun j hj=>absurd hj (by omega)⟩
 case round=>
  obtain ⟨k,hk,rfl,HQ⟩:=hrel
  by_cases hlt:k < l.length
  ·obtain ⟨t,ht⟩:∃ t,l[k]?=some t:=⟨_,List.getElem?_eq_getElem hlt⟩
   have ht2:(strs l)[k]?=some (.string ⟨t.toArray⟩):=by simp [ht]
   obtain ⟨b',o,rfl,_,hc⟩:=HA.out.at_ ht2
   have e1:=hc _ _ ht2
   have HTT:=Hi ht
   clear hc ht2 ht
   cases hq:(t==s.toList) with
   | true=>
    have hts:t=s.data.toList:=by have:=eq_of_beq hq;rwa [ByteArray.toList_eq] at this
    have HR:=Hi (show b=true from by rw [←HB.out,List.contains_eq_mem,decide_eq_true_eq,←hts];exact List.mem_of_getElem? HTT.out)
    clear hts
    go_wp2_with fail
    go_ret
    exact ⟨(congrArg (fun b=>Ending.returned (Value.bool b)) HR.out).symm,rfl⟩
   | false=>
    have hts:t≠s.data.toList:=fun e=>by rw [ByteArray.toList_eq,e] at hq;simp at hq
    have HTS:=Hi hts
    clear hts
    go_wp2_with fail
    go_round
    case rel=>exact ⟨k+1,by omega,by go_num,Hi fun j hj=>by
     by_cases hjk:j < k
     ·exact HQ.out j hjk
     ·obtain rfl:j=k:=by omega
      rw [HTT.out];intro e;exact HTS.out (Option.some.inj e)⟩
    case measure=>simp [intOf];omega
  ·have HR:=Hi (show b=false from by rw [←HIN.out k HQ.out,List.drop_of_length_le (by omega)];rfl)
   go_wp2_with fail
   go_ret
   exact ⟨(congrArg (fun b=>Ending.returned (Value.bool b)) HR.out).symm,rfl⟩
end Go.Proofs.YtpoepignpdfleaaGreatDoor.Nm
namespace Go.Proofs.YtpoepignpdfleaaGreatDoor.Pa
open Lx
mutual
def gE(Q:Bs→Prop):Tr→Prop
 | .mk k _ s n ps l=>ps=[]∧gEs Q l∧n < 4294967296∧((k = 0∧s=[]∧l=[])∨(n = 0∧((k = 1∧Q s∧l=[])∨(k = 2∧(s=[126]∨s=[45])∧l.length = 1) ∨
   (k = 3∧(s=[124]∨s=[94]∨s=[38]∨s=[43]∨s=[45])∧l.length = 2)∨(k = 4∧(s=[60,60]∨s=[62,62]∨s=[60,60,60])∧l.length = 2)∨(k = 5∧Q s∧l≠[]))))
def gEs(Q:Bs→Prop):List Tr→Prop
 | []=>True
 | x :: l=>gE Q x∧gEs Q l
end
mutual
def gS(Q:Bs→Prop):Tr→Prop
 | .mk k _ s n ps l=>n = 0∧ps=[]∧Q s∧((k = 10∧l.length = 1∧gA Q 1 l)∨(k = 11∧2≤l.length∧gA Q 2 l))
def gA(Q:Bs→Prop):Nat→List Tr→Prop
 | _,[]=>True
 | 0,x :: l=>gS Q x∧gA Q 0 l
 | i+1,x :: l=>gE Q x∧gA Q i l
end
def gT(Q:Bs→Prop):Tr→Prop
 | .mk k a s n ps l=>gS Q (.mk k a s n ps l)∨(n = 0∧(((k = 6∨k = 7)∧s=[]∧l=[]∧ps≠[]∧(∀ p∈ps,Q p))∨((k = 8∨k = 9)∧ps=[]∧Q s∧∃ x,l=[x]∧gE Q x) ∨
   (k = 12∧ps≠[]∧(∀ p∈ps,Q p)∧Q s∧∃ x,l=[x]∧gE Q x)))
theorem gE_put{Q:Bs→Prop}{x:Tr}(h:gE Q x)(a:Nat):gE Q (x.put a):=by
 cases x
 unfold Tr.put gE
 unfold gE at h
 exact h
def TQ(Q:Bs→Prop)(l:List Tk):Prop:=∀ t∈l,t.k = 1→Q t.s
theorem TQ.tail{Q:Bs→Prop}{t:Tk}{l:List Tk}(h:TQ Q (t :: l)):TQ Q l:=fun u hu=>h u (List.mem_cons_of_mem _ hu)
theorem TQ.hd{Q:Bs→Prop}{t:Tk}{l:List Tk}(h:TQ Q (t :: l))(hk:t.k = 1):Q t.s:=h t (List.mem_cons_self ..) hk
def Gr(Q:Bs→Prop)(P:List Tr→Prop):OO→Prop
 | some (.ok xs r)=>P xs∧TQ Q r
 | _=>True
section
variable {Q : Bs → Prop} {P P' : List Tr → Prop}
theorem gr_wrong(l:List Tk)(e:Nat):Gr Q P (wrong l e):=trivial
theorem gr_if{c:Prop}[Decidable c]{o p:OO}(h1:c→Gr Q P o)(h2:¬ c→Gr Q P p):Gr Q P (if c then o else p):=by
 by_cases h:c
 ·rw [if_pos h];exact h1 h
 ·rw [if_neg h];exact h2 h
theorem gr_bnd{o:OO}{f:List Tr→List Tk→OO}(h:Gr Q P o)(hf:∀ xs r,P xs→TQ Q r→Gr Q P' (f xs r)):Gr Q P' (bnd o f):=by
 rcases o with _ | ⟨xs,r⟩ | ⟨a,e⟩
 ·trivial
 ·exact hf xs r h.1 h.2
 ·trivial
theorem gr_ok{xs:List Tr}{r:List Tk}(h:P xs)(hr:TQ Q r):Gr Q P (some (.ok xs r)):=⟨h,hr⟩
theorem gr_mono{o:OO}(h:Gr Q P o)(hP:∀ xs,P xs→P' xs):Gr Q P' o:=by
 rcases o with _ | ⟨xs,r⟩ | ⟨a,e⟩
 ·trivial
 ·exact ⟨hP xs h.1,h.2⟩
 ·trivial
theorem gr_must{b:Bs}{l:List Tk}{f:List Tk→OO}(h:TQ Q l)(hf:∀ r,TQ Q r→Gr Q P (f r)):Gr Q P (must b l f):=by
 cases l with
 | nil=>trivial
 | cons t r=>exact gr_if (fun _=>hf r h.tail) fun _=>gr_wrong _ _
theorem gr_name{l:List Tk}{f:Bs→List Tk→OO}(h:TQ Q l)(hf:∀ s r,Q s→TQ Q r→Gr Q P (f s r)):Gr Q P (nameK l f):=by
 cases l with
 | nil=>trivial
 | cons t r=>exact gr_if (fun hk=>hf t.s r (h.hd hk) h.tail) fun _=>gr_wrong _ _
theorem gr_names{f:List Bs→List Tk→OO}(hf:∀ ps r,ps≠[]→(∀ p∈ps,Q p)→TQ Q r→Gr Q P (f ps r)):∀ (ps:List Bs) (l:List Tk),(∀ p∈ps,Q p)→TQ Q l→Gr Q P (namesK ps l f)
 | _,[],_,_=>trivial
 | ps,[t],hp,h=>by
  unfold namesK
  exact gr_if (fun hk=>hf _ _ (by simp) (fun p hm=>by
   rcases List.mem_append.1 hm with hm | hm
   ·exact hp p hm
   ·rw [List.mem_singleton.1 hm];exact h.hd hk) h.tail) fun _=>gr_wrong _ _
 | ps,t :: u :: r,hp,h=>by
  unfold namesK
  refine gr_if (fun hk=>?_) fun _=>gr_wrong _ _
  have hq:∀ p∈ps ++ [t.s],Q p:=fun p hm=>by
   rcases List.mem_append.1 hm with hm | hm
   ·exact hp p hm
   ·rw [List.mem_singleton.1 hm];exact h.hd hk
  exact gr_if (fun _=>gr_names hf _ r hq h.tail.tail) fun _=>hf _ _ (by simp) hq h.tail
end
def preM(Q:Bs→Prop):NT→Prop
 | .more _ x=>gE Q x
 | _=>True
def gN(Q:Bs→Prop):NT→List Tr→Prop
 | .lev _,xs=>∃ x,xs=[x]∧gE Q x
 | .more _ _,xs=>∃ x,xs=[x]∧gE Q x
 | .args l,xs=>∃ ys,xs=l ++ ys∧gEs Q ys
 | .fin k a s ps,xs=>∃ x,xs=[.mk k a s 0 ps [x]]∧gE Q x
 | .inner,xs=>∃ x,xs=[x]∧gS Q x
 | .inners l,xs=>∃ ys,xs=l ++ ys∧gA Q 0 ys
 | .stmt,xs=>∃ x,xs=[x]∧gT Q x
 | .stmts l,xs=>∃ ys,xs=l ++ ys∧∀ y∈ys,gT Q y
theorem on_bin{Q:Bs→Prop}{n:Nat}{t:Tk}{x y:Tr}(h:onS n t=true)(hx:gE Q x)(hy:gE Q y)(a:Nat):gE Q (.mk (if n = 3 then 4 else 3) a t.s 0 [] [x,y]):=by
 unfold onS at h
 simp only [Bool.and_eq_true,List.contains_iff_mem] at h
 have hs:=h.2
 unfold gE
 refine ⟨rfl,⟨hx,hy,trivial⟩,by decide,.inr ⟨rfl,?_⟩⟩
 rcases n with _ | _ | _ | _ | n
 ·simp only [sOf,List.mem_singleton] at hs
  exact .inr (.inr (.inl ⟨rfl,.inl hs,rfl⟩))
 ·simp only [sOf,List.mem_singleton] at hs
  exact .inr (.inr (.inl ⟨rfl,.inr (.inl hs),rfl⟩))
 ·simp only [sOf,List.mem_singleton] at hs
  exact .inr (.inr (.inl ⟨rfl,.inr (.inr (.inl hs)),rfl⟩))
 ·simp only [sOf,List.mem_cons,List.not_mem_nil,or_false] at hs
  exact .inr (.inr (.inr (.inl ⟨rfl,hs,rfl⟩)))
 ·simp only [sOf,List.mem_cons,List.not_mem_nil,or_false] at hs
  refine .inr (.inr (.inl ⟨if_neg (by omega),?_,rfl⟩))
  rcases hs with hs | hs
  ·exact .inr (.inr (.inr (.inl hs)))
  ·exact .inr (.inr (.inr (.inr hs)))
theorem pF_made{num:Bs→Nat×Nat}{Q:Bs→Prop}(hn:∀ b,(num b).1 < 4294967296):∀ (f:Nat) (nt:NT) (d:Nat) (l:List Tk),preM Q nt→TQ Q l→Gr Q (gN Q nt) (pF num f nt d l):=by
 intro f
 induction f with
 | zero=>intros;trivial
 | succ f ih=>
  intro nt d l hp h
  cases nt with
  | lev n=>
   unfold pF
   refine gr_if (fun _=>gr_bnd (ih (.lev (n+1)) _ _ trivial h) fun xs r hx hr=>?_) fun _=>?_
   ·obtain ⟨x,rfl,hx⟩:=hx
    exact ih (.more n x) _ _ hx hr
   cases l with
   | nil=>trivial
   | cons t r=>
   refine gr_if (fun _=>gr_wrong _ _) fun _=>gr_if (fun hs=>?_) fun _=>gr_if (fun hk=>?_) fun _=>gr_if (fun hs=>?_) fun _=>gr_name h fun s r hs hr=>?_
   ·refine gr_bnd (ih (.lev 5) _ _ trivial h.tail) fun xs r' hx hr=>⟨?_,hr⟩
    obtain ⟨x,rfl,hx⟩:=hx
    refine ⟨_,rfl,?_⟩
    unfold gE
    refine ⟨rfl,⟨hx,trivial⟩,by decide,.inr ⟨rfl,.inr (.inl ⟨rfl,?_,rfl⟩)⟩⟩
    unfold isS at hs
    simp only [Bool.or_eq_true,Bool.and_eq_true,beq_iff_eq] at hs
    rcases hs with hs | hs
    ·exact .inl hs.2
    ·exact .inr hs.2
   ·refine gr_if (fun _=>⟨⟨_,rfl,?_⟩,h.tail⟩) fun _=>gr_wrong _ _
    unfold gE
    exact ⟨rfl,trivial,hn _,.inl ⟨rfl,rfl,rfl⟩⟩
   ·refine gr_bnd (ih (.lev 0) _ _ trivial h.tail) fun xs r' hx hr=>gr_must hr fun r2 hr2=>⟨?_,hr2⟩
    obtain ⟨x,rfl,hx⟩:=hx
    exact ⟨_,rfl,gE_put hx _⟩
   ·have leaf:gE Q (.mk 1 t.at_ s 0 [] []):=by
     unfold gE
     exact ⟨rfl,trivial,by decide,.inr ⟨rfl,.inl ⟨rfl,hs,rfl⟩⟩⟩
    cases r with
    | nil=>exact ⟨⟨_,rfl,leaf⟩,hr⟩
    | cons u r'=>
     refine gr_if (fun hu=>?_) fun _=>⟨⟨_,rfl,leaf⟩,hr⟩
     refine gr_bnd (ih (.lev 0) _ _ trivial hr.tail) fun xs r2 hx hr2=>gr_bnd (ih (.args xs) _ _ trivial hr2) fun ys r3 hy hr3=>gr_must hr3 fun r4 hr4=>⟨?_,hr4⟩
     obtain ⟨x,rfl,hx⟩:=hx
     obtain ⟨zs,rfl,hz⟩:=hy
     refine ⟨_,rfl,?_⟩
     unfold gE
     exact ⟨rfl,⟨hx,hz⟩,by decide,.inr ⟨rfl,.inr (.inr (.inr (.inr ⟨rfl,hs,by simp⟩)))⟩⟩
  | more n x=>
   unfold pF
   cases l with
   | nil=>exact ⟨⟨_,rfl,hp⟩,h⟩
   | cons t r=>
    refine gr_if (fun hs=>gr_bnd (ih (.lev (n+1)) _ _ trivial h.tail) fun ys r' hy hr'=>?_) fun _=>⟨⟨_,rfl,hp⟩,h⟩
    obtain ⟨y,rfl,hy⟩:=hy
    exact ih (.more n (.mk (if n = 3 then 4 else 3) x.place t.s 0 [] [x,y])) d r' (on_bin hs hp hy x.place) hr'
  | args xs=>
   unfold pF
   cases l with
   | nil=>exact ⟨⟨[],by simp,trivial⟩,h⟩
   | cons t r=>
    refine gr_if (fun hs=>gr_bnd (ih (.lev 0) _ _ trivial h.tail) fun ys r' hy hr'=>?_) fun _=>⟨⟨[],by simp,trivial⟩,h⟩
    obtain ⟨y,rfl,hy⟩:=hy
    refine gr_mono (ih (.args (xs ++ [y])) d r' trivial hr') fun zs hz=>?_
    obtain ⟨us,rfl,hu⟩:=hz
    exact ⟨y :: us,by simp,hy,hu⟩
  | fin k a s ps=>
   unfold pF
   refine gr_bnd (ih (.lev 0) _ _ trivial h) fun xs r hx hr=>gr_must hr fun r' hr'=>⟨?_,hr'⟩
   obtain ⟨x,rfl,hx⟩:=hx
   exact ⟨x,rfl,hx⟩
  | inner=>
   unfold pF
   cases l with
   | nil=>trivial
   | cons t r=>
    refine gr_if (fun _=>gr_wrong _ _) fun _=>gr_if (fun hs=>?_) fun _=>gr_name h fun s r hs hr=>gr_must hr fun r hr=>?_
    ·refine gr_name h.tail fun s r hs hr=>gr_must hr fun r hr=>gr_bnd (ih (.lev 0) _ _ trivial hr) fun xs r hx hr=>gr_must hr fun r hr=>gr_bnd (ih (.lev 0) _ _ trivial hr) fun ys r hy hr=>gr_must hr fun r hr=>gr_bnd (ih (.inners (xs ++ ys)) _ _ trivial hr) fun zs r hz hr=>⟨?_,hr⟩
     obtain ⟨x,rfl,hx⟩:=hx
     obtain ⟨y,rfl,hy⟩:=hy
     obtain ⟨us,rfl,hu⟩:=hz
     refine ⟨_,rfl,?_⟩
     unfold gS
     refine ⟨rfl,rfl,hs,.inr ⟨rfl,by simp,?_⟩⟩
     show gA Q 2 (x :: y :: us)
     unfold gA
     refine ⟨hx,?_⟩
     unfold gA
     exact ⟨hy,hu⟩
    ·refine gr_mono (ih (.fin 10 t.at_ s []) d r trivial hr) fun zs hz=>?_
     obtain ⟨x,rfl,hx⟩:=hz
     refine ⟨_,rfl,?_⟩
     unfold gS
     refine ⟨rfl,rfl,hs,.inl ⟨rfl,rfl,?_⟩⟩
     unfold gA
     exact ⟨hx,by unfold gA;trivial⟩
  | inners zs=>
   unfold pF
   cases l with
   | nil=>trivial
   | cons t r=>
    refine gr_if (fun _=>⟨⟨[],by simp,by unfold gA;trivial⟩,h.tail⟩) fun _=>gr_bnd (ih .inner _ _ trivial h) fun xs r' hx hr'=>?_
    obtain ⟨x,rfl,hx⟩:=hx
    refine gr_mono (ih (.inners (zs ++ [x])) d r' trivial hr') fun ys hz=>?_
    obtain ⟨us,rfl,hu⟩:=hz
    exact ⟨x :: us,by simp,by unfold gA;exact ⟨hx,hu⟩⟩
  | stmt=>
   unfold pF
   cases l with
   | nil=>trivial
   | cons t r=>
    have fin:∀ (k:Nat) (s:Bs) (ps:List Bs) (r:List Tk),TQ Q r→(∀ x,gE Q x→gT Q (.mk k t.at_ s 0 ps [x]))→Gr Q (gN Q .stmt) (pF num f (.fin k t.at_ s ps) d r):=fun k s ps r hr hk=>by
     refine gr_mono (ih (.fin k t.at_ s ps) d r trivial hr) fun zs hz=>?_
     obtain ⟨x,rfl,hx⟩:=hz
     exact ⟨_,rfl,hk x hx⟩
    refine gr_if (fun _=>?_) fun _=>gr_if (fun _=>?_) fun _=>gr_if (fun _=>?_) fun _=>gr_if (fun _=>?_) fun _=>gr_if (fun _=>?_) fun _=>?_
    ·exact gr_names (fun ps r h0 hq hr=>gr_must hr fun r hr=>gr_ok ⟨_,rfl,by unfold gT;exact .inr ⟨rfl,.inl ⟨.inl rfl,rfl,rfl,h0,hq⟩⟩⟩ hr) [] r (by simp) h.tail
    ·exact gr_names (fun ps r h0 hq hr=>gr_must hr fun r hr=>gr_ok ⟨_,rfl,by unfold gT;exact .inr ⟨rfl,.inl ⟨.inr rfl,rfl,rfl,h0,hq⟩⟩⟩ hr) [] r (by simp) h.tail
    ·exact gr_name h.tail fun s r hs hr=>gr_must hr fun r hr=>fin 8 s [] r hr fun x hx=>by unfold gT;exact .inr ⟨rfl,.inr (.inl ⟨.inl rfl,rfl,hs,x,rfl,hx⟩)⟩
    ·exact gr_name h.tail fun s r hs hr=>gr_must hr fun r hr=>fin 9 s [] r hr fun x hx=>by unfold gT;exact .inr ⟨rfl,.inr (.inl ⟨.inr rfl,rfl,hs,x,rfl,hx⟩)⟩
    ·exact gr_name h.tail fun s r hs hr=>gr_must hr fun r hr=>gr_names (fun ps r h0 hq hr=>gr_must hr fun r hr=>gr_must hr fun r hr=>fin 12 s ps r hr fun x hx=>by unfold gT;exact .inr ⟨rfl,.inr (.inr ⟨rfl,h0,hq,hs,x,rfl,hx⟩)⟩) [] r (by simp) hr
    ·refine gr_mono (ih .inner 0 (t :: r) trivial h) fun zs hz=>?_
     obtain ⟨x,rfl,hx⟩:=hz
     refine ⟨x,rfl,?_⟩
     cases x
     unfold gT;exact .inl hx
  | stmts xs=>
   unfold pF
   cases l with
   | nil=>trivial
   | cons t r=>
    refine gr_if (fun _=>⟨⟨[],by simp,by simp⟩,h⟩) fun _=>gr_bnd (ih .stmt _ _ trivial h) fun ys r' hy hr'=>?_
    obtain ⟨y,rfl,hy⟩:=hy
    refine gr_mono (ih (.stmts (xs ++ [y])) d r' trivial hr') fun zs hz=>?_
    obtain ⟨us,rfl,hu⟩:=hz
    refine ⟨y :: us,by simp,fun z hz=>?_⟩
    rcases List.mem_cons.1 hz with rfl | hz
    ·exact hy
    ·exact hu z hz
end Go.Proofs.YtpoepignpdfleaaGreatDoor.Pa
namespace Go.Proofs.YtpoepignpdfleaaGreatDoor.Nm
open Lx Pa Sh
set_option linter.unusedVariables false
set_option linter.unusedSimpArgs false
structure RS where
 inn:List Bs
 var:List Bs
 loo:List Bs
 fn:List Bs
 many:List Nat
 bad:Option Int
 se:List Bs
 pu:List Bs
 ou:List (Bs×Bool)
def manyR:List Bs→List Nat→Bs→Int
 | f :: fs,m :: ms,s=>if f==s then (m:Int) else manyR fs ms s
 | _,_,_=>-1
def wordR(d:RS)(s:Bs):Bool:=d.inn.contains s || d.var.contains s || d.loo.contains s
def callR(fn:List Bs)(many:List Nat)(s:Bs)(p:Nat):Bool:=decide (manyR fn many s=(p:Int)) && fn.contains s
def orB(o:Option Int)(c:Bool)(a:Int):Option Int:=match o with | some b=>some b | none=>if c then some a else none
def orO(o p:Option Int):Option Int:=match o with | some b=>some b | none=>p
def twB:List Bs→Bool
 | []=>false
 | s :: l=>l.contains s || twB l
def nmR(d:RS)(s:Bs):Bool:=d.inn.contains s || d.var.contains s || d.loo.contains s || d.fn.contains s
mutual
def rsB:Tz→RS→RS
 | .mk k a s n ps l,d=>
  if d.bad.isSome=true then d
  else if k = 6 then { d with bad:=orB d.bad (ps.any (nmR d) || twB ps) a,inn:=d.inn ++ ps,se:=d.se ++ ps }
  else if k = 7 then { d with bad:=orB d.bad (ps.any (nmR d) || twB ps) a,inn:=d.inn ++ ps,pu:=d.pu ++ ps }
  else if k = 12 then
   { d with bad:=orO (orB (orB d.bad (nmR d s || twB ps || ps.contains s) a) (ps.any fun p=>d.fn.contains p) a) (exBs (fun t=>ps.contains t) (callR d.fn d.many) l),fn:=d.fn ++ [s],many:=d.many ++ [ps.length] }
  else if k = 8∨k = 9 then
   { d with bad:=orB (orO d.bad (exBs (wordR d) (callR d.fn d.many) l)) ((d.ou.map (·.1)).contains s) a,ou:=d.ou ++ [(s,decide (k = 9))] }
  else if k = 10 then
   { d with bad:=orB (orO d.bad (exBs (wordR d) (callR d.fn d.many) l)) (d.inn.contains s || d.loo.contains s || d.fn.contains s) a,var:=d.var ++ [s] }
  else if k = 11 then
   let e:=rsBs 2 l { d with bad:=orB (orO d.bad (exBs (wordR d) (callR d.fn d.many) (l.take 2))) (nmR d s) a,loo:=d.loo ++ [s] }
   { e with var:=d.var,loo:=d.loo,inn:=d.inn }
  else d
def rsBs:Nat→List Tz→RS→RS
 | _,[],d=>d
 | 0,x :: l,d=>rsBs 0 l (rsB x d)
 | i+1,_ :: l,d=>rsBs i l d
end
theorem rsBs_nil(i:Nat)(d:RS):rsBs i [] d=d:=by unfold rsBs;rfl
theorem rsBs_cons(x:Tz)(l:List Tz)(d:RS):rsBs 0 (x :: l) d=rsBs 0 l (rsB x d):=by conv=>lhs;unfold rsBs
theorem rsBs_drop:∀ (i:Nat) (l:List Tz) (d:RS),rsBs i l d=rsBs 0 (l.drop i) d
 | 0,l,d=>by rw [List.drop_zero]
 | i+1,[],d=>by simp [rsBs]
 | i+1,x :: l,d=>by rw [List.drop_succ_cons,←rsBs_drop i l d];conv=>lhs;unfold rsBs
def initR:RS:={ inn:=[],var:=[],loo:=[],fn:=[sel],many:=[3],bad:=none,se:=[],pu:=[],ou:=[] }
def ckR(z:Tz):RS:=rsBs 0 (lz z) initR
theorem rsB_bad{d:RS}(h:d.bad.isSome=true):∀ (z:Tz),rsB z d=d
 | .mk k a s n ps l=>by unfold rsB;rw [if_pos h]
theorem rsBs_bad{d:RS}(h:d.bad.isSome=true):∀ (i:Nat) (l:List Tz),rsBs i l d=d
 | _,[]=>rsBs_nil _ _
 | 0,x :: l=>by rw [rsBs_cons,rsB_bad h,rsBs_bad h 0 l]
 | i+1,x :: l=>by unfold rsBs;exact rsBs_bad h i l
/-! Both alike. -/
structure Rl(c:St)(d:RS):Prop where
 good:d.bad=none
 inn:∀ s,s∈d.inn↔∃ p,c.kn s=some (0,p)
 fn:∀ s,s∈d.fn↔∃ p,c.kn s=some (1,p)
 var:∀ s,s∈d.var↔∃ p,c.kn s=some (2,p)
 loo:∀ s,s∈d.loo↔∃ p,c.kn s=some (3,p)
 many:∀ s p,c.kn s=some (1,p)→manyR d.fn d.many s=(p:Int)
 len:d.many.length=d.fn.length
 sorts:Sorts c.kn
 se:d.se=c.se
 pu:d.pu=c.pu
 ou:d.ou=c.ou
theorem bool_eq_of_iff{a b:Bool}(h:a=true↔b=true):a=b:=by cases a <;> cases b <;> simp_all
theorem Rl.named{c:St}{d:RS}(h:Rl c d)(s:Bs):nmR d s=namedB c.kn s:=by
 refine bool_eq_of_iff ?_
 unfold nmR namedB
 simp only [Bool.or_eq_true,List.contains_iff_mem,h.inn,h.var,h.loo,h.fn,Option.isSome_iff_exists]
 constructor
 ·rintro (((⟨p,h⟩ | ⟨p,h⟩) | ⟨p,h⟩) | ⟨p,h⟩) <;> exact ⟨_,h⟩
 ·rintro ⟨⟨m,p⟩,hk⟩
  have hm:=h.sorts s _ hk
  simp only at hm
  rcases m with _ | _ | _ | _ | m
  ·exact .inl (.inl (.inl ⟨p,hk⟩))
  ·exact .inr ⟨p,hk⟩
  ·exact .inl (.inl (.inr ⟨p,hk⟩))
  ·exact .inl (.inr ⟨p,hk⟩)
  ·omega
theorem Rl.word{c:St}{d:RS}(h:Rl c d)(s:Bs):wordR d s=wordB c.kn s:=by
 refine bool_eq_of_iff ?_
 unfold wordR wordB
 simp only [Bool.or_eq_true,List.contains_iff_mem,h.inn,h.var,h.loo]
 cases hk:c.kn s with
 | none=>simp
 | some m=>
  obtain ⟨m,p⟩:=m
  have hm:=h.sorts s _ hk
  simp only at hm
  rcases m with _ | _ | _ | _ | m
  ·simp
  ·simp
  ·simp
  ·simp
  ·omega
theorem Rl.func{c:St}{d:RS}(h:Rl c d)(s:Bs):d.fn.contains s=isB c.kn s [1]:=by
 refine bool_eq_of_iff ?_
 unfold isB
 rw [List.contains_iff_mem,h.fn]
 cases hk:c.kn s with
 | none=>simp
 | some m=>obtain ⟨m,p⟩:=m;simp
theorem Rl.call{c:St}{d:RS}(h:Rl c d)(s:Bs)(p:Nat):callR d.fn d.many s p=callB c.kn s p:=by
 unfold callR callB
 cases hk:c.kn s with
 | none=>
  have:d.fn.contains s=false:=by rw [h.func];unfold isB;rw [hk]
  rw [this];simp
 | some m=>
  obtain ⟨m,q⟩:=m
  by_cases hm:m = 1
  ·subst hm
   have h1:d.fn.contains s=true:=by rw [h.func];unfold isB;rw [hk];simp
   rw [h1,h.many s q hk]
   refine bool_eq_of_iff ?_
   simp only [Bool.and_true,decide_eq_true_eq,decide_true,Bool.true_and]
   omega
  ·have h1:d.fn.contains s=false:=by rw [h.func];unfold isB;rw [hk];simp;omega
   rw [h1];simp [hm]
mutual
theorem exB_congr{f f':Bs→Bool}{g g':Bs→Nat→Bool}(hf:∀ s,f s=f' s)(hg:∀ s p,g s p=g' s p):∀ z,exB f g z=exB f' g' z
 | .mk k a s n ps l=>by unfold exB;rw [hf,hg,exBs_congr hf hg l]
theorem exBs_congr{f f':Bs→Bool}{g g':Bs→Nat→Bool}(hf:∀ s,f s=f' s)(hg:∀ s p,g s p=g' s p):∀ l,exBs f g l=exBs f' g' l
 | []=>by unfold exBs;rfl
 | x :: l=>by unfold exBs;rw [exB_congr hf hg x,exBs_congr hf hg l]
end
theorem Rl.exs{c:St}{d:RS}(h:Rl c d)(l:List Tz):exBs (wordR d) (callR d.fn d.many) l=exBs (wordB c.kn) (callB c.kn) l:=exBs_congr h.word h.call l
def Both(r:Rs)(d:RS):Prop:=match r with | .bad a=>d.bad=some a | .ok c=>Rl c d
theorem put_mem{kn:Kn}{l:List Bs}{s:Bs}{m q:Nat}(hl:∀ t,t∈l↔∃ p,kn t=some (m,p))(hn:kn s=none):∀ t,t∈l ++ [s]↔∃ p,kn.put s (m,q) t=some (m,p):=fun t=>by
 unfold Kn.put
 by_cases e:t=s
 ·subst e;simp
 ·rw [if_neg e];simp [e,hl]
theorem put_mem2{kn:Kn}{l:List Bs}{s:Bs}{m m' q:Nat}(hl:∀ t,t∈l↔∃ p,kn t=some (m,p))(hn:kn s=none)(hm:m'≠m):∀ t,t∈l↔∃ p,kn.put s (m',q) t=some (m,p):=fun t=>by
 unfold Kn.put
 by_cases e:t=s
 ·subst e;simp [hl,hn,hm]
 ·rw [if_neg e];exact hl t
theorem put_many{kn:Kn}{fn:List Bs}{mn:List Nat}{s:Bs}{m q:Nat}(h:∀ t p,kn t=some (1,p)→manyR fn mn t=(p:Int))(hm:m≠1):∀ t p,kn.put s (m,q) t=some (1,p)→manyR fn mn t=(p:Int):=fun t p ht=>by
 unfold Kn.put at ht
 by_cases e:t=s
 ·rw [if_pos e] at ht;simp at ht;exact absurd ht.1 hm
 ·rw [if_neg e] at ht;exact h t p ht
theorem Rl.putIn{c:St}{d:RS}(h:Rl c d){s:Bs}(hn:c.kn s=none):Rl { c with kn:=c.kn.put s (0,0),en:=c.en ++ [s] } { d with inn:=d.inn ++ [s] }:=
 ⟨h.good,put_mem h.inn hn,put_mem2 h.fn hn (by decide),put_mem2 h.var hn (by decide),put_mem2 h.loo hn (by decide),put_many h.many (by decide),h.len,h.sorts.put (by decide),h.se,h.pu,h.ou⟩
theorem twB_cons(s:Bs)(l:List Bs):twB (s :: l)=(l.contains s || twB l):=rfl
theorem orB_none{c:Bool}{a:Int}:orB none c a=if c=true then some a else none:=by cases c <;> rfl
theorem in_both{a:Int}:∀ {ps:List Bs} {c:St} {d:RS},Rl c d→(((ps.any (nmR d) || twB ps)=true∧inB a ps c = .bad a)∨((ps.any (nmR d) || twB ps)=false∧∃ c',inB a ps c = .ok c'∧Rl c' { d with inn:=d.inn ++ ps }))
 | [],c,d,h=>.inr ⟨rfl,c,by unfold inB;rfl,by simpa using h⟩
 | s :: l,c,d,h=>by
  unfold inB
  by_cases hb:namedB c.kn s=true
  ·rw [if_pos hb]
   exact .inl ⟨by rw [List.any_cons,h.named,hb];simp,rfl⟩
  ·rw [if_neg hb]
   have hn:=namedB_no hb
   have hs:nmR d s=false:=by rw [h.named];simpa using hb
   have h2:=h.putIn hn
   have hany:l.any (nmR { d with inn:=d.inn ++ [s] })=(l.any (nmR d) || l.contains s):=by
    refine bool_eq_of_iff ?_
    simp only [Bool.or_eq_true,List.any_eq_true,List.contains_iff_mem]
    unfold nmR
    simp only [Bool.or_eq_true,List.contains_iff_mem,List.mem_append,List.mem_singleton]
    constructor
    ·rintro ⟨x,hx,(((h | h) | h) | h) | h⟩
     ·exact .inl ⟨x,hx,.inl (.inl (.inl h))⟩
     ·subst h;exact .inr hx
     ·exact .inl ⟨x,hx,.inl (.inl (.inr h))⟩
     ·exact .inl ⟨x,hx,.inl (.inr h)⟩
     ·exact .inl ⟨x,hx,.inr h⟩
    ·rintro (⟨x,hx,((h | h) | h) | h⟩ | h)
     ·exact ⟨x,hx,.inl (.inl (.inl (.inl h)))⟩
     ·exact ⟨x,hx,.inl (.inl (.inr h))⟩
     ·exact ⟨x,hx,.inl (.inr h)⟩
     ·exact ⟨x,hx,.inr h⟩
     ·exact ⟨s,h,.inl (.inl (.inl (.inr rfl)))⟩
   have hall:((s :: l).any (nmR d) || twB (s :: l))=(l.any (nmR { d with inn:=d.inn ++ [s] }) || twB l):=by
    rw [hany,List.any_cons,hs,twB_cons]
    cases l.any (nmR d) <;> cases l.contains s <;> cases twB l <;> rfl
   rw [hall]
   rcases in_both (a:=a) (ps:=l) h2 with ⟨h3,h4⟩ | ⟨h3,c',h4,h5⟩
   ·exact .inl ⟨h3,h4⟩
   ·exact .inr ⟨h3,c',h4,by simpa using h5⟩
theorem pa_both{c:St}{d:RS}(h:Rl c d)(f:Bs):∀ (ps sn:List Bs),paB c.kn f sn ps = !(ps.any (fun s=>sn.contains s) || twB ps || ps.contains f || ps.any fun p=>d.fn.contains p)
 | [],sn=>by unfold paB;simp [twB]
 | s :: l,sn=>by
  unfold paB
  have hs:(l.any fun t=>(sn ++ [s]).contains t)=((l.any fun t=>sn.contains t) || l.contains s):=by
   refine bool_eq_of_iff ?_
   simp only [Bool.or_eq_true,List.any_eq_true,List.contains_iff_mem,List.mem_append,List.mem_singleton]
   constructor
   ·rintro ⟨x,hx,h | h⟩
    ·exact .inl ⟨x,hx,h⟩
    ·subst h;exact .inr hx
   ·rintro (⟨x,hx,h⟩ | h)
    ·exact ⟨x,hx,.inl h⟩
    ·exact ⟨s,h,.inr rfl⟩
  rw [pa_both h f l (sn ++ [s]),hs,←h.func]
  have e2:(s :: l).contains f=(s==f || l.contains f):=by
   refine bool_eq_of_iff ?_
   simp only [List.contains_iff_mem,List.mem_cons,Bool.or_eq_true,beq_iff_eq]
   constructor
   ·rintro (h | h)
    ·exact .inl h.symm
    ·exact .inr h
   ·rintro (h | h)
    ·exact .inl h.symm
    ·exact .inr h
  rw [e2]
  simp only [List.any_cons,twB]
  cases (s==f) <;> cases sn.contains s <;> cases d.fn.contains s <;> cases (l.any fun t=>sn.contains t) <;> cases l.contains s <;> cases twB l <;> cases l.contains f <;> cases (l.any fun p=>d.fn.contains p) <;> rfl
theorem many_app:∀ (fn:List Bs) (mn:List Nat),mn.length=fn.length→∀ (s:Bs) (q:Nat) (t:Bs),manyR (fn ++ [s]) (mn ++ [q]) t=if t∈fn then manyR fn mn t else if s=t then (q:Int) else -1
 | [],[],_,s,q,t=>by simp [manyR]
 | f :: fs,m :: ms,h,s,q,t=>by
  rw [List.cons_append,List.cons_append]
  have ih:=many_app fs ms (by simpa using h) s q t
  by_cases e:f=t
  ·subst e;simp [manyR]
  ·have e':t≠f:=fun h=>e h.symm
   simp only [manyR,beq_iff_eq,if_neg e,List.mem_cons,e',false_or]
   exact ih
 | [],_ :: _,h,_,_,_=>by simp at h
 | _ :: _,[],h,_,_,_=>by simp at h
mutual
def okP:Tz→Prop
 | .mk k _ _ _ _ l=>(k = 8∨k = 9∨k = 10∨k = 12→l.length≤1)∧(k = 11→okPs 2 l)
def okPs:Nat→List Tz→Prop
 | _,[]=>True
 | 0,x :: l=>okP x∧okPs 0 l
 | i+1,_ :: l=>okPs i l
end
theorem orO_none{o:Option Int}:orO none o=o:=rfl
theorem take_all{α:Type}{l:List α}{n:Nat}(h:l.length≤n):l.take n=l:=List.take_of_length_le h
theorem isB3{kn:Kn}{s:Bs}{m:Nat}:isB kn s [m]=true↔∃ p,kn s=some (m,p):=by
 unfold isB
 cases hk:kn s with
 | none=>simp
 | some x=>obtain ⟨x,p⟩:=x;simp
mutual
theorem st_both:∀ (z:Tz),okP z→∀ (c:St) (d:RS),Rl c d→Both (stB z c) (rsB z d)
 | .mk k a s n ps l,hp,c,d,h=>by
  unfold okP at hp
  unfold stB rsB
  rw [if_neg (c:=d.bad.isSome=true) (by rw [h.good];simp)]
  by_cases h6:k = 6
  ·rw [if_pos h6,if_pos h6,h.good]
   rcases in_both (a:=a) (ps:=ps) h with ⟨h1,h2⟩ | ⟨h1,c',h2,h3⟩
   ·rw [h1,h2];rfl
   ·rw [h1,h2]
    exact ⟨rfl,h3.inn,h3.fn,h3.var,h3.loo,h3.many,h3.len,h3.sorts,by show d.se ++ ps=c'.se ++ ps;rw [←h3.se],h3.pu,h3.ou⟩
  rw [if_neg h6,if_neg h6]
  by_cases h7:k = 7
  ·rw [if_pos h7,if_pos h7,h.good]
   rcases in_both (a:=a) (ps:=ps) h with ⟨h1,h2⟩ | ⟨h1,c',h2,h3⟩
   ·rw [h1,h2];rfl
   ·rw [h1,h2]
    exact ⟨rfl,h3.inn,h3.fn,h3.var,h3.loo,h3.many,h3.len,h3.sorts,h3.se,by show d.pu ++ ps=c'.pu ++ ps;rw [←h3.pu],h3.ou⟩
  rw [if_neg h7,if_neg h7]
  by_cases h12:k = 12
  ·rw [if_pos h12,if_pos h12,h.good,orB_none,h.named]
   by_cases hb:namedB c.kn s=true
   ·rw [if_pos hb,hb];rfl
   rw [if_neg hb]
   have hn:=namedB_no hb
   have hb':namedB c.kn s=false:=by simpa using hb
   have hpa:=pa_both h s ps []
   have hnil:(ps.any fun t=>([]:List Bs).contains t)=false:=by simp
   rw [hnil,Bool.false_or] at hpa
   rw [hb',Bool.false_or,take_all (hp.1 (.inr (.inr (.inr h12))))]
   by_cases h1:(twB ps || ps.contains s)=true
   ·rw [h1] at hpa ⊢
    rw [if_pos (c:=paB c.kn s [] ps=false) (by rw [hpa];rfl)];rfl
   ·have h1':(twB ps || ps.contains s)=false:=by simpa using h1
    rw [h1'] at hpa ⊢
    rw [Bool.false_or] at hpa
    show Both _ { d with bad:=orO (orB none _ a) _,fn:=_,many:=_ }
    rw [orB_none]
    by_cases h2:(ps.any fun p=>d.fn.contains p)=true
    ·rw [h2] at hpa ⊢
     rw [if_pos (c:=paB c.kn s [] ps=false) (by rw [hpa];rfl)];rfl
    ·have h2':(ps.any fun p=>d.fn.contains p)=false:=by simpa using h2
     rw [h2'] at hpa ⊢
     rw [if_neg (c:=paB c.kn s [] ps=false) (by rw [hpa];simp),exBs_congr (f':=fun t=>ps.contains t) (fun _=>rfl) h.call l]
     cases exBs (fun t=>ps.contains t) (callB c.kn) l with
     | some e=>rfl
     | none=>
      refine ⟨rfl,put_mem2 h.inn hn (by decide),put_mem h.fn hn,put_mem2 h.var hn (by decide),put_mem2 h.loo hn (by decide),fun t p ht=>?_,by simp [h.len],h.sorts.put (by show 1≤3;decide),h.se,h.pu,h.ou⟩
      show manyR (d.fn ++ [s]) (d.many ++ [ps.length]) t=_
      rw [many_app _ _ h.len]
      have ht':c.kn.put s (1,ps.length) t=some (1,p):=ht
      unfold Kn.put at ht'
      by_cases e:t=s
      ·rw [if_pos e] at ht'
       have hnf:¬ t∈d.fn:=fun hm=>by
        obtain ⟨q,hq⟩:=(h.fn t).1 hm
        rw [e,hn] at hq;cases hq
       rw [if_neg hnf,if_pos e.symm]
       simp at ht'
       rw [ht']
      ·rw [if_neg e] at ht'
       rw [if_pos ((h.fn t).2 ⟨p,ht'⟩)]
       exact h.many t p ht'
  rw [if_neg h12,if_neg h12]
  by_cases h8:k = 8∨k = 9
  ·rw [if_neg (c:=k = 10) (by omega),if_pos h8,if_pos h8,h.good,h.exs,take_all (hp.1 (by omega)),orO_none,h.ou]
   cases exBs (wordB c.kn) (callB c.kn) l with
   | some e=>rfl
   | none=>
    show Both (if _ then Rs.bad a else _) _
    by_cases hb:(c.ou.map (·.1)).contains s=true
    ·rw [if_pos hb,hb];rfl
    ·rw [if_neg hb]
     have hb':(c.ou.map (·.1)).contains s=false:=by simpa using hb
     rw [hb']
     exact ⟨rfl,h.inn,h.fn,h.var,h.loo,h.many,h.len,h.sorts,h.se,h.pu,rfl⟩
  rw [if_neg h8,if_neg h8]
  by_cases h10:k = 10
  ·rw [if_pos h10,if_pos h10,h.good,h.exs,take_all (hp.1 (by omega)),orO_none]
   cases exBs (wordB c.kn) (callB c.kn) l with
   | some e=>rfl
   | none=>
    show Both (if _ then Rs.bad a else _) _
    have hq:(d.inn.contains s || d.loo.contains s || d.fn.contains s)=isB c.kn s [0,1,3]:=by
     refine bool_eq_of_iff ?_
     simp only [Bool.or_eq_true,List.contains_iff_mem,h.inn,h.loo,h.fn]
     unfold isB
     cases hk:c.kn s with
     | none=>simp
     | some x=>
      obtain ⟨x,p⟩:=x
      simp
      omega
    rw [hq,orB_none]
    by_cases hb:isB c.kn s [0,1,3]=true
    ·rw [if_pos hb,if_pos hb];rfl
    rw [if_neg hb,if_neg hb]
    by_cases hv:isB c.kn s [2]=true
    ·rw [if_pos hv]
     have hm:s∈d.var:=(h.var s).2 (isB3.1 hv)
     exact ⟨rfl,h.inn,h.fn,fun t=>by rw [←h.var];simp;intro e;subst e;exact hm,h.loo,h.many,h.len,h.sorts,h.se,h.pu,h.ou⟩
    ·rw [if_neg hv]
     have hn:=isB_none hb hv h.sorts
     exact ⟨rfl,put_mem2 h.inn hn (by decide),put_mem2 h.fn hn (by decide),put_mem h.var hn,put_mem2 h.loo hn (by decide),put_many h.many (by decide),h.len,h.sorts.put (by decide),h.se,h.pu,h.ou⟩
  rw [if_neg h10,if_neg h10]
  by_cases h11:k = 11
  ·rw [if_pos h11,if_pos h11,h.good,h.exs,orO_none,h.named]
   cases exBs (wordB c.kn) (callB c.kn) (l.take 2) with
   | some e=>
    show ({ rsBs 2 l _ with var:=_,loo:=_,inn:=_ }:RS).bad=some e
    rw [rsBs_bad (by rfl)];rfl
   | none=>
    show Both (if _ then Rs.bad a else _) _
    rw [orB_none]
    by_cases hb:namedB c.kn s=true
    ·rw [if_pos hb,if_pos hb]
     show ({ rsBs 2 l _ with var:=_,loo:=_,inn:=_ }:RS).bad=some a
     rw [rsBs_bad (by rfl)]
    rw [if_neg hb,if_neg hb]
    have hn:=namedB_no hb
    have h1:Rl { c with kn:=c.kn.put s (3,0),en:=c.en ++ [s] } { d with bad:=none,loo:=d.loo ++ [s] }:=
     ⟨rfl,put_mem2 h.inn hn (by decide),put_mem2 h.fn hn (by decide),put_mem2 h.var hn (by decide),put_mem h.loo hn,put_many h.many (by decide),h.len,h.sorts.put (by decide),h.se,h.pu,h.ou⟩
    have h2:=sts_both 2 l (hp.2 h11) _ _ h1
    have hx:∀ c2,stBs 2 l { c with kn:=c.kn.put s (3,0),en:=c.en ++ [s] } = .ok c2→Ext c c2∧∃ e,c2.en=c.en ++ e∧(∀ s∈e,c.kn s=none∧∃ m,c2.kn s=some m∧m.1≠1)∧∀ s m,c2.kn s=some m→c.kn s=none→m.1≠1→s∈e:=fun c2 h3=>by
     have h4:=(Ext.new (c:=c) (d:={ c with kn:=c.kn.put s (3,0),en:=c.en ++ [s] }) hn (by decide) rfl rfl).trans (stBs_ext h3 (h.sorts.put (by decide))).1
     exact ⟨h4,h4.en⟩
    cases h3:stBs 2 l { c with kn:=c.kn.put s (3,0),en:=c.en ++ [s] } with
    | bad b=>rw [h3] at h2;exact h2
    | ok c2=>
     rw [h3] at h2
     have hR:Rl c2 (rsBs 2 l { d with bad:=none,loo:=d.loo ++ [s] }):=h2
     obtain ⟨hE,e,h4,h5,h7'⟩:=hx c2 h3
     have hd:c2.en.drop c.en.length=e:=by rw [h4];simp
     have key:∀ (li:List Bs) (m:Nat),m≠1→(∀ t,t∈li↔∃ p,c.kn t=some (m,p))→∀ t,t∈li↔∃ p,c2.kn.dels (c2.en.drop c.en.length) t=some (m,p):=fun li m hm hl t=>by
      rw [hd,hl]
      unfold Kn.dels
      constructor
      ·rintro ⟨p,hp⟩
       rw [if_neg (fun hh=>by rw [(h5 t hh).1] at hp;cases hp)]
       exact ⟨p,hE.kn t _ hp⟩
      ·rintro ⟨p,hp⟩
       by_cases hte:t∈e
       ·rw [if_pos hte] at hp;cases hp
       rw [if_neg hte] at hp
       cases hc:c.kn t with
       | none=>exact absurd (h7' t _ hp hc hm) hte
       | some x=>have:=hE.kn t x hc;rw [this] at hp;exact ⟨p,hp⟩
     have keyf:∀ t p,c2.kn.dels (c2.en.drop c.en.length) t=some (1,p)↔c2.kn t=some (1,p):=fun t p=>by
      rw [hd]
      unfold Kn.dels
      by_cases hte:t∈e
      ·rw [if_pos hte]
       obtain ⟨_,x,hx1,hx2⟩:=h5 t hte
       rw [hx1]
       constructor
       ·intro hh;cases hh
       ·intro hh;cases hh;exact absurd rfl hx2
      ·rw [if_neg hte]
     exact ⟨hR.good,key _ 0 (by decide) h.inn,fun t=>by show t∈(rsBs 2 l _).fn↔_;rw [hR.fn];exact exists_congr fun p=>(keyf t p).symm,key _ 2 (by decide) h.var,key _ 3 (by decide) h.loo,fun t p ht=>hR.many t p ((keyf t p).1 ht),hR.len,hR.sorts.dels _,hR.se,hR.pu,hR.ou⟩
  rw [if_neg h11,if_neg h11]
  exact h
theorem sts_both:∀ (i:Nat) (l:List Tz),okPs i l→∀ (c:St) (d:RS),Rl c d→Both (stBs i l c) (rsBs i l d)
 | i,[],_,c,d,h=>by rw [stBs_nil,rsBs_nil];exact h
 | 0,x :: l,hp,c,d,h=>by
  unfold okPs at hp
  rw [stBs_cons,rsBs_cons]
  have h1:=st_both x hp.1 c d h
  cases h2:stB x c with
  | bad a=>
   rw [h2] at h1
   have h1':(rsB x d).bad=some a:=h1
   show (rsBs 0 l (rsB x d)).bad=some a
   rw [rsBs_bad (by rw [h1'];rfl),h1']
  | ok c1=>
   rw [h2] at h1
   exact sts_both 0 l hp.2 c1 _ h1
 | i+1,x :: l,hp,c,d,h=>by
  unfold okPs at hp
  unfold stBs rsBs
  exact sts_both i l hp c d h
end
theorem init_both:Rl init initR:=by
 refine ⟨rfl,fun s=>?_,fun s=>?_,fun s=>?_,fun s=>?_,fun s p h=>?_,rfl,?_,rfl,rfl,rfl⟩
 ·simp only [init,initR,Kn.put]
  by_cases e:s=sel <;> simp [e]
 ·simp only [init,initR,Kn.put]
  by_cases e:s=sel <;> simp [e]
 ·simp only [init,initR,Kn.put]
  by_cases e:s=sel <;> simp [e]
 ·simp only [init,initR,Kn.put]
  by_cases e:s=sel <;> simp [e]
 ·simp only [init,Kn.put] at h
  by_cases e:s=sel
  ·simp [e] at h;subst h;subst e;rfl
  ·simp [e] at h
 ·intro s m h
  simp only [init,Kn.put] at h
  by_cases e:s=sel
  ·simp [e] at h;subst h;decide
  ·simp [e] at h
theorem ck_both{z:Tz}(h:okPs 0 (lz z)):Both (ckB z) (ckR z):=sts_both 0 (lz z) h init initR init_both
mutual
theorem okP_gS{Q:Bs→Prop}:∀ {x:Tr},gS Q x→okP (embz x)
 | .mk k a s n ps l,h=>by
  unfold gS at h
  unfold embz okP
  rw [embs_len]
  obtain ⟨_,_,_,⟨h1,h2,_⟩ | ⟨h1,h2,h3⟩⟩:=h
  ·subst h1
   exact ⟨fun _=>by omega,fun h=>by simp at h⟩
  ·subst h1
   exact ⟨fun h=>by simp at h,fun _=>okP_gA h3⟩
theorem okP_gA{Q:Bs→Prop}:∀ {i:Nat} {l:List Tr},gA Q i l→okPs i (embs l)
 | _,[],_=>by unfold embs okPs;trivial
 | 0,x :: l,h=>by unfold gA at h;unfold embs okPs;exact ⟨okP_gS h.1,okP_gA h.2⟩
 | i+1,x :: l,h=>by unfold gA at h;unfold embs okPs;exact okP_gA h.2
end
theorem okP_gT{Q:Bs→Prop}{x:Tr}(h:gT Q x):okP (embz x):=by
 obtain ⟨k,a,s,n,ps,l⟩:=x
 unfold gT at h
 rcases h with h | ⟨_,⟨h1,_,h2,_⟩ | ⟨h1,_,_,y,rfl,_⟩ | ⟨h1,_,_,_,y,rfl,_⟩⟩
 ·exact okP_gS h
 ·unfold embz okP
  exact ⟨fun _=>by rw [h2];simp [embs],fun h=>by omega⟩
 ·unfold embz okP
  exact ⟨fun _=>by simp [embs],fun h=>by omega⟩
 ·unfold embz okP
  exact ⟨fun _=>by simp [embs],fun h=>by omega⟩
theorem okPs_gT{Q:Bs→Prop}:∀ {l:List Tr},(∀ y∈l,gT Q y)→okPs 0 (embs l)
 | [],_=>by unfold embs okPs;trivial
 | x :: l,h=>by unfold embs okPs;exact ⟨okP_gT (h x (by simp)),okPs_gT fun y hy=>h y (by simp [hy])⟩
end Go.Proofs.YtpoepignpdfleaaGreatDoor.Nm
