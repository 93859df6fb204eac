/- DERIVED. Hi, LxSpec, LxPl, PaLx, PaLy, PaLz, PaSpec, Args, Mem, Upd, AppF, AppW, PaMem. By an AI agent. -/
import Derived.Test.YtcgibpdjfgjldaaGreatDoorR01
import Derived.Lib.Hide
import Derived.Lib.IndexMore
import Derived.OpenShut
import Derived.Below
import Derived.SizedLaws
import Derived.WideShapes
import Derived.ChangeSame
import Derived.Laws.OwnMore
import Derived.Deep.Draws
import Derived.Deep.AppendLies
import Derived.RegionTactic
import Derived.Laws.BytesArg
import Derived.RangeFuncBox
import Derived.OwnWalkIn
set_option linter.unusedVariables false
namespace Go.Proofs.YtcgibpdjfgjldaaGreatDoor
section
theorem Hi {p : Prop} (h : p) : Go.RowKit.Hid p := h
end
namespace Lx
abbrev Bs:=List UInt8
def dx(c:UInt8):Bool:=(65<=c.toNat && c.toNat<=90) || (97<=c.toNat && c.toNat<=122)
def numB(c:UInt8):Bool:=48<=c.toNat && c.toNat<=57
def onB(word:Bool)(c:UInt8):Bool:=dx c || numB c || (word && c==95)
def aU(w:Bool):Bs->Nat
 | []=>0
 | c :: r=>if onB w c then aU w r+1 else 0
def aj:Bool->Bs->Nat
 | _,[]=>0
 | true,c :: r=>if c==10 then aj false r+1 else aj true r+1
 | false,c :: r=>if c==32 || c==9 || c==10 then aj false r+1 else if c==47 && r.head?==some 47 then aj true r+1 else 0
def words7:List Bs:=[[115,101,99,114,101,116],[112,117,98,108,105,99],[111,117,116],[115,104,111,119],[102,111,114],[105,110],[102,110]]
def aA(s:Bs):Bool:=words7.contains s
def dz:List Bs:=[[60,60],[62,62],[46,46]]
def signs1:Bs:=[61,59,44,40,41,123,125,43,45,38,124,94,126]
def aW(c:UInt8)(r:Bs):Option (Nat×Nat):=
 if dx c=true then
  if aA (c :: r.take (aU true r))=true then some (3,aU true r+1) else if 32 < aU true r+1 then none else some (1,aU true r+1)
 else if numB c=true then some (2,aU false r+1)
 else if (c :: r).take 3=[60,60,60] then some (4,3)
 else if (c :: r).take 2∈dz then some (4,2)
 else if c∈signs1 then some (4,1)
 else none
structure Tk where
 k:Nat
 s:Bs
 at_:Nat
 deriving DecidableEq
structure Wd where
 l:List Tk
 at_:Nat
 er:Nat
def Wd.cons(t:Tk)(w:Wd):Wd:=if w.er = 0 then ⟨t :: w.l,w.at_,w.er⟩ else w
def goL:Nat->Bs->Nat->Nat->Wd
 | 0,_,_,_=>⟨[],0,0⟩
 | f+1,bs,i,n=>
  match bs with
  | []=>if n = 4000 then ⟨[],i,150⟩ else ⟨[⟨0,[],i⟩],0,0⟩
  | c :: r=>
   match aW c r with
   | none=>⟨[],i,100⟩
   | some (k,m)=>if n = 4000 then ⟨[],i,150⟩ else
    Wd.cons ⟨k,(c :: r).take m,i⟩ (goL f (((c :: r).drop m).drop (aj false ((c :: r).drop m))) (i+m+aj false ((c :: r).drop m)) (n+1))
def af(s:Bs):Wd:=if 20000 < s.length then ⟨[],0,150⟩ else goL (s.length+1) (s.drop (aj false s)) (aj false s) 0
theorem q1r(w:Bool):∀ r:Bs,aU w r<=r.length
 | []=>Nat.le_refl _
 | c :: r=>by
  unfold aU;split
  ·have:=q1r w r;simp;omega
  ·exact Nat.zero_le _
theorem q0I:∀ (q:Bool) (r:Bs),aj q r<=r.length
 | true,[]=>Nat.le_refl _
 | false,[]=>Nat.le_refl _
 | true,c :: r=>by
  unfold aj;have h1:=q0I false r;have h2:=q0I true r;split <;> simp <;> omega
 | false,c :: r=>by
  unfold aj;have h1:=q0I false r;have h2:=q0I true r;split
  ·simp;omega
  ·split
   ·simp;omega
   ·exact Nat.zero_le _
theorem q26{c:UInt8}{r:Bs}{k m:Nat}(h:aW c r=some (k,m)):1<=m/\m<=(c :: r).length/\1<=k:=by
 have ht:=q1r true r;have hf:=q1r false r;unfold aW at h;split at h
 ·split at h
  ·cases h;simp;omega
  ·split at h
   ·cases h
   ·cases h;simp;omega
 ·split at h
  ·cases h;simp;omega
  ·split at h
   ·rename_i h3;cases h;have h4:((c :: r).take 3).length = 3:=by rw [h3];rfl
    rw [List.length_take] at h4;omega
   ·split at h
    ·rename_i h3;cases h;have h4:((c :: r).take 2).length = 2:=by
      simp only [dz,List.mem_cons,List.not_mem_nil,or_false] at h3;rcases h3 with h3 | h3 | h3 <;> rw [h3] <;> rfl
     rw [List.length_take] at h4;omega
    ·split at h
     ·cases h;simp
     ·cases h
theorem q0g(w:Bool)(c:UInt8)(r:Bs):aU w (c :: r)=if onB w c=true then aU w r+1 else 0:=rfl
theorem go_ok:∀ (f:Nat) (bs:Bs) (i n:Nat),bs.length < f->(goL f bs i n).er = 0 ->
  (bs=[]/\n≠4000/\goL f bs i n=⟨[⟨0,[],i⟩],0,0⟩) \/
  ∃ c r k m,bs=c :: r/\aW c r=some (k,m)/\n≠4000/\(goL (f - 1) (((c :: r).drop m).drop (aj false ((c :: r).drop m))) (i+m+aj false ((c :: r).drop m)) (n+1)).er = 0 /\
   goL f bs i n=⟨⟨k,(c :: r).take m,i⟩ :: (goL (f - 1) (((c :: r).drop m).drop (aj false ((c :: r).drop m))) (i+m+aj false ((c :: r).drop m)) (n+1)).l,(goL (f - 1) (((c :: r).drop m).drop (aj false ((c :: r).drop m))) (i+m+aj false ((c :: r).drop m)) (n+1)).at_,0⟩ /\
   (((c :: r).drop m).drop (aj false ((c :: r).drop m))).length < f - 1
 | 0,bs,i,n,hf,_=>V0
 | f+1,[],i,n,hf,h=>by
  by_cases hn:n = 4000
  ·subst hn;exact absurd h V0q
  ·refine .inl ⟨rfl,hn,?_⟩;show (if n = 4000 then _ else _)=_;rw [if_neg hn]
 | f+1,c :: r,i,n,hf,h=>by
  have e:goL (f+1) (c :: r) i n=match aW c r with
   | none=>⟨[],i,100⟩
   | some (k,m)=>if n = 4000 then ⟨[],i,150⟩ else
    Wd.cons ⟨k,(c :: r).take m,i⟩ (goL f (((c :: r).drop m).drop (aj false ((c :: r).drop m))) (i+m+aj false ((c :: r).drop m)) (n+1)):=rfl
  rcases ht:aW c r with _ | ⟨k,m⟩
  ·rw [e,ht] at h;exact absurd h V1Z
  ·rw [e,ht] at h;simp only at h;by_cases hn:n = 4000
   ·rw [if_pos hn] at h;exact absurd h V0q
   ·rw [if_neg hn] at h;have hw:(goL f (((c :: r).drop m).drop (aj false ((c :: r).drop m))) (i+m+aj false ((c :: r).drop m)) (n+1)).er = 0:=by
     unfold Wd.cons at h;split at h
     ·assumption
     ·exact h
    have hm:=q26 ht;refine .inr ⟨c,r,k,m,rfl,ht,hn,hw,?_,?_⟩
    ·rw [e,ht];simp only;rw [if_neg hn];unfold Wd.cons;rw [if_pos hw];exact congrArg (Wd.mk _ _) hw
    ·rw [List.length_drop,List.length_drop];omega
def Tk.same(a b:Tk):Prop:=a.k=b.k/\a.s=b.s
theorem q4R:∀ (f:Nat) (bs:Bs) (i n:Nat),bs.length < f->(goL f bs i n).er = 0->∃ t l,(goL f bs i n).l=t :: l/\(bs=[]->t=⟨0,[],i⟩/\l=[])/\(bs≠[]->l≠[]/\∃ c r k m,bs=c :: r/\aW c r=some (k,m)/\t=⟨k,(c :: r).take m,i⟩):=fun f bs i n hf h=>by
 rcases go_ok f bs i n hf h with ⟨rfl,hn,e⟩ | ⟨c,r,k,m,rfl,ht,hn,hw,e,hl⟩
 ·exact ⟨_,_,by rw [e],fun _=>⟨rfl,rfl⟩,fun h=>absurd rfl h⟩
 ·refine ⟨_,_,by rw [e],fun h=>by (cases h),fun _=>⟨fun hl0=>?_,c,r,k,m,rfl,ht,rfl⟩⟩;rcases go_ok (f - 1) _ _ _ hl hw with ⟨_,_,e2⟩ | ⟨_,_,_,_,_,_,_,_,e2,_⟩
  ·rw [e2] at hl0;cases hl0
  ·rw [e2] at hl0;cases hl0
theorem q7g(s:Bs):∀ (f:Nat) (bs:Bs) (i n:Nat),bs.length < f->(goL f bs i n).er = 0->s.drop i=bs->i<=s.length ->
  ∀ (j:Nat) (t:Tk),(goL f bs i n).l[j]?=some t->i<=t.at_/\t.at_+t.s.length<=s.length/\(s.drop t.at_).take t.s.length=t.s/\(t.k = 0↔j+1=(goL f bs i n).l.length)/\(∀ u,0 < j->(goL f bs i n).l[j - 1]?=some u->u.at_+u.s.length<=t.at_):=by
 intro f
 induction f with
 | zero=>intro bs i n hf;omega
 | succ f ih=>
  intro bs i n hf h hs hi j t hj;rcases go_ok (f+1) bs i n hf h with ⟨rfl,hn,e⟩ | ⟨c,r,k,m,rfl,ht,hn,hw,e,hl⟩
  ·rw [e] at hj ⊢;cases j with
   | succ j=>simp at hj
   | zero=>
    have ht:t=⟨0,[],i⟩:=by simpa using hj.symm
    subst ht;exact ⟨Nat.le_refl _,by simpa using hi,rfl,V3,fun u h0=>absurd h0 V0⟩
  ·simp only [Nat.add_sub_cancel] at hw e hl;have hm:=q26 ht;have hlen:(s.drop i).length=(c :: r).length:=by rw [hs]
   have hsk:=q0I false ((c :: r).drop m);have hdm:((c :: r).drop m).length=(c :: r).length - m:=List.length_drop;have hB:s.drop (i+m+aj false ((c :: r).drop m))=((c :: r).drop m).drop (aj false ((c :: r).drop m)):=by
    rw [<-List.drop_drop,<-List.drop_drop,hs]
   have hi2:i+m+aj false ((c :: r).drop m)<=s.length:=by rw [List.length_drop] at hlen;omega
   have him:i+m<=i+m+aj false ((c :: r).drop m):=V0;obtain ⟨t1,l1,hl1,h0,h1⟩:=q4R f _ _ (n+1) hl hw;have hih:=ih _ _ (n+1) hl hw hB hi2;generalize ((c :: r).drop m).drop (aj false ((c :: r).drop m))=B at *;generalize i+m+aj false ((c :: r).drop m)=i2 at *;have htl:((c :: r).take m).length=m:=VL;rw [e] at hj ⊢;cases j with
   | zero=>
    have htt:t=⟨k,(c :: r).take m,i⟩:=by simpa using hj.symm
    subst htt;refine ⟨Nat.le_refl _,?_,?_,?_,fun u h0=>absurd h0 V0⟩
    ·show i+((c :: r).take m).length<=_;rw [htl];rw [List.length_drop] at hlen;omega
    ·show (s.drop i).take ((c :: r).take m).length=_;rw [htl,hs]
    ·constructor
     ·intro hk;exact absurd hk (by show ¬ k = 0;omega)
     ·intro hx;rw [List.length_cons,hl1,List.length_cons] at hx;omega
   | succ j=>
    have hj2:(goL f B i2 (n+1)).l[j]?=some t:=by simpa using hj
    obtain ⟨a1,a2,a3,a4,a5⟩:=hih j t hj2;refine ⟨V0,a2,a3,?_,?_⟩
    ·rw [List.length_cons];constructor
     ·intro hk;have:=a4.1 hk;omega
     ·intro hx;exact a4.2 V0
    ·intro u _ hu;cases j with
     | zero=>
      have huu:u=⟨k,(c :: r).take m,i⟩:=by simpa using hu.symm
      subst huu;show i+((c :: r).take m).length<=t.at_;rw [htl];omega
     | succ j=>exact a5 u V0 V0B
theorem q1M(s:Bs)(h:(af s).er = 0):(af s).l≠[]/\∀ (j:Nat) (t:Tk),(af s).l[j]?=some t->t.at_+t.s.length<=s.length/\(s.drop t.at_).take t.s.length=t.s/\(t.k = 0↔j+1=(af s).l.length)/\(∀ u,0 < j->(af s).l[j - 1]?=some u->u.at_+u.s.length<=t.at_):=by
 have e:af s=goL (s.length+1) (s.drop (aj false s)) (aj false s) 0:=by
  unfold af at h ⊢;split at h
  ·exact absurd h V0q
  ·rename_i hs;rw [if_neg hs]
 rw [e] at h ⊢;have hf:(s.drop (aj false s)).length < s.length+1:=V0r;refine ⟨?_,fun j t hj=>(q7g s (s.length+1) _ _ 0 hf h rfl (q0I false s) j t hj).2⟩;obtain ⟨t1,l1,hl1,_,_⟩:=q4R (s.length+1) _ _ 0 hf h;rw [hl1];exact List.cons_ne_nil _ _
theorem q8n:∀ (f:Nat) (bs:Bs) (i n:Nat),(goL f bs i n).er≠0->(goL f bs i n).l=[]
 | 0,_,_,_,h=>absurd rfl h
 | f+1,[],i,n,h=>by
  by_cases hn:n = 4000
  ·subst hn;rfl
  ·exact absurd (show (if n = 4000 then (⟨[],i,150⟩:Wd) else ⟨[⟨0,[],i⟩],0,0⟩).er = 0 by rw [if_neg hn]) h
 | f+1,c :: r,i,n,h=>by
  have e:goL (f+1) (c :: r) i n=match aW c r with
   | none=>⟨[],i,100⟩
   | some (k,m)=>if n = 4000 then ⟨[],i,150⟩ else
    Wd.cons ⟨k,(c :: r).take m,i⟩ (goL f (((c :: r).drop m).drop (aj false ((c :: r).drop m))) (i+m+aj false ((c :: r).drop m)) (n+1)):=rfl
  rcases ht:aW c r with _ | ⟨k,m⟩
  ·rw [e,ht]
  ·rw [e,ht] at h ⊢;simp only at h ⊢;by_cases hn:n = 4000
   ·rw [if_pos hn]
   ·rw [if_neg hn] at h ⊢;unfold Wd.cons at h ⊢;split at h
    ·rename_i h0;exact absurd h0 h
    ·rename_i h0;rw [if_neg h0];exact q8n f _ _ _ h0
theorem q5H(s:Bs)(h:(af s).er≠0):(af s).l=[]:=by
 unfold af at h ⊢;split at h
 ·rename_i hs;rw [if_pos hs]
 ·rename_i hs;rw [if_neg hs];exact q8n _ _ _ _ h
theorem q27(s:Bs)(h:20000 < s.length):af s=⟨[],0,150⟩:=by unfold af;rw [if_pos h]
def aZ(r:Bs):Bs:=r.drop (aj false r)
def blk3:Bs:=[32,9,10]
theorem q7h{c:UInt8}{r:Bs}(h:blk3.contains c=true):aj false (c :: r)=aj false r+1:=by
 have h':(c==32 || c==9 || c==10)=true:=by simpa [blk3,Bool.or_assoc] using h
 show (if c==32 || c==9 || c==10 then _ else _)=_;rw [if_pos h']
theorem q2A:∀ r:Bs,aZ (r.dropWhile (blk3.contains ·))=aZ r
 | []=>rfl
 | c :: r=>by
  rw [List.dropWhile_cons];split
  ·rename_i h;rw [q2A r];unfold aZ;rw [q7h h,List.drop_succ_cons]
  ·rfl
theorem q5I{r:Bs}{c:UInt8}{u:Bs}(h:r.dropWhile (blk3.contains ·)=c :: u):blk3.contains c=false:=by
 induction r with
 | nil=>cases h
 | cons d r ih=>
  rw [List.dropWhile_cons] at h;split at h
  ·exact ih h
  ·rename_i hd;cases h;simpa using hd
theorem q5J{r t:Bs}(h:r.dropWhile (blk3.contains ·)=t)(h2:[47,47].isPrefixOf t=false):aZ t=t:=by
 cases t with
 | nil=>rfl
 | cons c u=>
  have hc:=q5I h;have hc':(c==32 || c==9 || c==10)=false:=by simpa [blk3,Bool.or_assoc] using hc
  have hs:aj false (c :: u) = 0:=by
   show (if c==32 || c==9 || c==10 then aj false u+1 else if c==47 && u.head?==some 47 then aj true u+1 else 0) = 0;rw [if_neg (by simp [hc']),if_neg];intro h47;cases u with
   | nil=>simp at h47
   | cons d u=>
    simp at h47;simp [List.isPrefixOf,h47.1,h47.2] at h2
  unfold aZ;rw [hs,List.drop_zero]
def aft:Bs->Bs
 | []=>[]
 | c :: r=>if c==10 then r else aft r
theorem q8o:∀ r:Bs,(aft r).length<=r.length
 | []=>Nat.le_refl _
 | c :: r=>by
  unfold aft;have:=q8o r;split <;> simp <;> omega
theorem q3Q:∀ r:Bs,r.drop (aj true r)=aZ (aft r)
 | []=>rfl
 | c :: r=>by
  show (c :: r).drop (if c==10 then aj false r+1 else aj true r+1)=aZ (if c==10 then r else aft r);split
  ·rfl
  ·rw [List.drop_succ_cons];exact q3Q r
theorem rest_cm{t:Bs}(h:[47,47].isPrefixOf t=true):aZ t=aZ (aft t)/\(aft t).length < t.length:=by
 match t,h with
 | [],h=>simp at h
 | [a],h=>simp [List.isPrefixOf] at h
 | a :: b :: u,h=>
  simp [List.isPrefixOf] at h;obtain ⟨rfl,rfl⟩:=h;refine ⟨?_,?_⟩
  ·show (47 :: 47 :: u).drop (aj true (47 :: u)+1)=_;rw [List.drop_succ_cons];exact q3Q (47 :: u)
  ·have:=q8o u;show (aft u).length < _;simp;omega
theorem q2B(r:Bs):(aZ r).length<=r.length:=by unfold aZ;rw [List.length_drop];omega
def signsL:List Bs:=[[60,60,60],[60,60],[62,62],[46,46],[61],[59],[44],[40],[41],[123],[125],[43],[45],[38],[124],[94],[126]]
def tokS(c:UInt8)(r:Bs):Option (Nat×Nat):=(signsL.find? fun x=>x.isPrefixOf (c :: r)).map fun x=>(4,x.length)
theorem q7i{c:UInt8}{r:Bs}(hl:dx c=false)(hn:numB c=false):aW c r=tokS c r:=by
 unfold aW;rw [if_neg (by simp [hl]),if_neg (by simp [hn])];unfold tokS signsL;by_cases h60:c = 60
 ·subst h60
  match r with
  | []=>decide
  | [a]=>
   by_cases ha:a = 60
   ·subst ha;decide
   ·exact V41
  | a :: b :: r=>
   by_cases ha:a = 60
   ·subst ha;by_cases hb:b = 60
    ·subst hb;simp [List.isPrefixOf,List.find?]
    ·have hb':((60:UInt8)==b)=false:=beq_eq_false_iff_ne.2 (Ne.symm hb);simp [dz,List.isPrefixOf,List.find?,hb,hb']
   ·exact V41
 ·have h60':((60:UInt8)==c)=false:=beq_eq_false_iff_ne.2 (Ne.symm h60);rw [if_neg (by simp [h60])];have g:∀ d:UInt8,d≠60->((c=d/\r.head?=some d)->((c :: r).take 2=[d,d])):=fun d _ ⟨h1,h2⟩=>by
   subst h1;cases r with
   | nil=>simp at h2
   | cons a r=>simp at h2;simp [h2]
  by_cases h62:c = 62
  ·subst h62
   match r with
   | []=>decide
   | a :: r=>
    by_cases ha:a = 62
    ·subst ha;simp [dz,List.isPrefixOf,List.find?]
    ·have ha':((62:UInt8)==a)=false:=beq_eq_false_iff_ne.2 (Ne.symm ha);exact V1v
  ·have h62':((62:UInt8)==c)=false:=beq_eq_false_iff_ne.2 (Ne.symm h62);by_cases h46:c = 46
   ·subst h46
    match r with
    | []=>decide
    | a :: r=>
     by_cases ha:a = 46
     ·subst ha;simp [dz,List.isPrefixOf,List.find?]
     ·have ha':((46:UInt8)==a)=false:=beq_eq_false_iff_ne.2 (Ne.symm ha);exact V1v
   ·have h46':((46:UInt8)==c)=false:=beq_eq_false_iff_ne.2 (Ne.symm h46);rw [if_neg (by cases r <;> simp [dz,h60,h62,h46])];by_cases hs:c∈signs1
    ·rw [if_pos hs];simp only [signs1,List.mem_cons,List.not_mem_nil,or_false] at hs;rcases hs with rfl | rfl | rfl | rfl | rfl | rfl | rfl | rfl | rfl | rfl | rfl | rfl | rfl <;> simp [List.isPrefixOf,List.find?]
    ·rw [if_neg hs];have hs':∀ d∈signs1,(d==c)=false:=fun d hd=>beq_eq_false_iff_ne.2 fun e=>hs (e ▸ hd)
     simp only [signs1,List.mem_cons,List.not_mem_nil,or_false,forall_eq_or_imp,forall_eq] at hs';obtain ⟨s1,s2,s3,s4,s5,s6,s7,s8,s9,s10,s11,s12,s13⟩:=hs';simp [List.isPrefixOf,List.find?,h60',h62',h46',s1,s2,s3,s4,s5,s6,s7,s8,s9,s10,s11,s12,s13]
theorem q33{α:Type}(p:α->Bool):∀ (q:List α) (x:α) (l r:List α),l=q ++ x :: r->(∀ y∈q,p y=false)->p x=true->l.find? p=some x
 | [],x,l,r,h,_,hx=>by subst h;simp [hx]
 | y :: q,x,l,r,h,hq,hx=>by
  subst h;rw [List.cons_append,List.find?_cons,hq y (List.mem_cons_self ..)];exact q33 p q x _ r rfl (fun z hz=>hq z (List.mem_cons_of_mem _ hz)) hx
theorem q7j{α:Type}(p:α->Bool)(l:List α)(h:∀ y∈l,p y=false):l.find? p=none:=by
 rw [List.find?_eq_none];intro y hy;rw [h y hy];decide
theorem q7k{c:UInt8}{r x:Bs}(hx:x.isPrefixOf (c :: r)=true):(c :: r).take x.length=x:=by
 obtain ⟨t,ht⟩:=List.isPrefixOf_iff_prefix.1 hx;rw [<-ht];simp
def goI:Nat->Bs->Nat->List (Tk×Nat)
 | 0,_,_=>[]
 | f+1,bs,i=>
  match bs with
  | []=>[(⟨0,[],i⟩,0)]
  | c :: r=>
   match aW c r with
   | none=>[(⟨0,[],i⟩,100)]
   | some (k,m)=>(⟨k,(c :: r).take m,i⟩,0) :: goI f (aZ ((c :: r).drop m)) (i+m+aj false ((c :: r).drop m))
theorem q4y(f i:Nat):goI (f+1) [] i=[(⟨0,[],i⟩,0)]:=rfl
theorem q3e{f i:Nat}{c:UInt8}{r:Bs}(h:aW c r=none):goI (f+1) (c :: r) i=[(⟨0,[],i⟩,100)]:=by
 show (match aW c r with | none=>_ | some (k,m)=>_)=_;rw [h]
theorem q3f{f i:Nat}{c:UInt8}{r:Bs}{k m:Nat}(h:aW c r=some (k,m)):goI (f+1) (c :: r) i=(⟨k,(c :: r).take m,i⟩,0) :: goI f (aZ ((c :: r).drop m)) (i+m+aj false ((c :: r).drop m)):=by
 show (match aW c r with | none=>_ | some (k,m)=>_)=_;rw [h]
theorem q3g{f i n:Nat}{c:UInt8}{r:Bs}(h:aW c r=none):goL (f+1) (c :: r) i n=⟨[],i,100⟩:=by
 show (match aW c r with | none=>_ | some (k,m)=>_)=_;rw [h]
theorem q1Q{f i n:Nat}{c:UInt8}{r:Bs}{k m:Nat}(h:aW c r=some (k,m)):goL (f+1) (c :: r) i n=if n = 4000 then ⟨[],i,150⟩ else Wd.cons ⟨k,(c :: r).take m,i⟩ (goL f (aZ ((c :: r).drop m)) (i+m+aj false ((c :: r).drop m)) (n+1)):=by
 show (match aW c r with | none=>_ | some (k,m)=>_)=_;rw [h];rfl
theorem q3h{c:UInt8}{r:Bs}{k m f:Nat}(h:aW c r=some (k,m))(hf:(c :: r).length < f+1):(aZ ((c :: r).drop m)).length < f:=by
 have hm:=q26 h;have:=q2B ((c :: r).drop m);rw [List.length_drop] at this;omega
theorem q5K:∀ (f:Nat) (bs:Bs) (i n:Nat),bs.length < f->(∀ x∈goI f bs i,x.2 = 0)->n+(goI f bs i).length<=4000->goL f bs i n=⟨(goI f bs i).map (·.1),0,0⟩
 | 0,bs,i,n,hf,_,_=>V0
 | f+1,[],i,n,hf,h,hn=>by
  have hn':n≠4000:=by rw [q4y] at hn;simp at hn;omega
  show (if n = 4000 then (⟨[],i,150⟩:Wd) else ⟨[⟨0,[],i⟩],0,0⟩)=_;rw [if_neg hn'];rfl
 | f+1,c :: r,i,n,hf,h,hn=>by
  rcases ht:aW c r with _ | ⟨k,m⟩
  ·rw [q3e ht] at h;have:=h _ (List.mem_cons_self ..);exact absurd this V1Z
  ·rw [q3f ht] at h hn ⊢;rw [List.length_cons] at hn;rw [q1Q ht,if_neg V0,q5K f _ _ (n+1) (q3h ht hf) (fun x hx=>h x (List.mem_cons_of_mem _ hx)) V0];rfl
theorem q5L{t:Tk}{w:Wd}(h:w.er≠0):Wd.cons t w=w:=by unfold Wd.cons;rw [if_neg h]
theorem q5M:∀ (f:Nat) (bs:Bs) (i n:Nat) (q:List (Tk×Nat)) (x:Tk×Nat) (l:List (Tk×Nat)),bs.length < f->goI f bs i=q ++ x :: l->(∀ y∈q,y.2 = 0)->n+q.length<=4000 ->
  (x.2≠0->goL f bs i n=⟨[],x.1.at_,x.2⟩)/\(x.2 = 0->n+q.length = 4000->goL f bs i n=⟨[],x.1.at_,150⟩)
 | 0,bs,i,n,q,x,l,hf,_,_,_=>V0
 | f+1,[],i,n,q,x,l,hf,h,hq,hn=>by
  rw [q4y] at h;cases q with
  | cons y q=>simp at h
  | nil=>
   simp at h;obtain ⟨rfl,rfl⟩:=h;refine ⟨fun h=>absurd rfl h,fun _ hn'=>?_⟩;show (if n = 4000 then (⟨[],i,150⟩:Wd) else ⟨[⟨0,[],i⟩],0,0⟩)=_;rw [if_pos (by simpa using hn')]
 | f+1,c :: r,i,n,q,x,l,hf,h,hq,hn=>by
  rcases ht:aW c r with _ | ⟨k,m⟩
  ·rw [q3e ht] at h;cases q with
   | cons y q=>simp at h
   | nil=>
    simp at h;obtain ⟨rfl,rfl⟩:=h;exact ⟨fun _=>q3g ht,fun h=>absurd h V1Z⟩
  ·rw [q3f ht] at h;cases q with
   | nil=>
    simp only [List.nil_append,List.cons.injEq] at h;obtain ⟨rfl,h2⟩:=h;refine ⟨fun h=>absurd rfl h,fun _ hn'=>?_⟩;rw [q1Q ht,if_pos (by simpa using hn')]
   | cons y q=>
    simp only [List.cons_append,List.cons.injEq] at h;rw [List.length_cons] at hn;have ih:=q5M f _ _ (n+1) q x l (q3h ht hf) h.2 (fun z hz=>hq z (List.mem_cons_of_mem _ hz)) V0;rw [q1Q ht,if_neg V0,List.length_cons];refine ⟨fun hx=>?_,fun hx hn'=>?_⟩
    ·rw [ih.1 hx];exact q5L hx
    ·rw [ih.2 hx V0];exact q5L V0q
def bV(s:Bs):List (Tk×Nat):=goI (s.length+1) (aZ s) (aj false s)
theorem q5N{s:Bs}(hs:s.length<=20000)(h:∀ x∈bV s,x.2 = 0)(hn:(bV s).length<=4000):af s=⟨(bV s).map (·.1),0,0⟩:=by
 unfold af;rw [if_neg V0];show goL (s.length+1) (aZ s) (aj false s) 0=_;unfold bV at h hn ⊢;exact q5K _ _ _ 0 (by have:=q2B s;omega) h V0
theorem q5O{s:Bs}(hs:s.length<=20000){q:List (Tk×Nat)}{x:Tk×Nat}(h:q ++ [x] <+: bV s)(hq:∀ y∈q,y.2 = 0)(hn:q.length<=4000) :
  (x.2≠0->af s=⟨[],x.1.at_,x.2⟩)/\(x.2 = 0->q.length = 4000->af s=⟨[],x.1.at_,150⟩):=by
 obtain ⟨l,hl⟩:=h;have e:af s=goL (s.length+1) (aZ s) (aj false s) 0:=by unfold af;rw [if_neg V0];rfl
 have:=q5M (s.length+1) (aZ s) (aj false s) 0 q x l (by have:=q2B s;omega) (by show bV s=_;rw [<-hl];simp) hq V0;rw [e];rw [Nat.zero_add] at this;exact this
def splitB(c:UInt8):Bs->List Bs
 | []=>[[]]
 | d :: r=>if d==c then [] :: splitB c r else match splitB c r with | []=>[[d]] | x :: l=>(d :: x) :: l
def signsT:Bs:=[60,60,60,32,60,60,32,62,62,32,46,46,32,61,32,59,32,44,32,40,32,41,32,123,32,125,32,43,32,45,32,38,32,124,32,94,32,126]
theorem q2C:splitB 32 signsT=signsL:=V2
theorem split_at(c:UInt8):∀ (r:Bs),(Lib.indexByte r c = -1/\splitB c r=[r])\/∃ i:Nat,Lib.indexByte r c=i/\i < r.length/\splitB c r=r.take i :: splitB c (r.drop (i+1))
 | []=>.inl ⟨rfl,rfl⟩
 | d :: r=>by
  have e:Lib.indexByte (d :: r) c=if d==c then 0 else if Lib.indexByte r c==-1 then -1 else Lib.indexByte r c+1:=rfl
  by_cases hd:(d==c)=true
  ·refine .inr ⟨0,by rw [e,if_pos hd];rfl,V3,?_⟩
   conv=>lhs;unfold splitB
   rw [if_pos hd];rfl
  ·rcases split_at c r with ⟨h1,h2⟩ | ⟨i,h1,h2,h3⟩
   ·refine .inl ⟨by rw [e,if_neg hd,h1];rfl,?_⟩;unfold splitB;rw [if_neg hd,h2]
   ·refine .inr ⟨i+1,?_,V4,?_⟩
    ·rw [e,if_neg hd,h1,if_neg (by rw [beq_iff_eq];omega)];push_cast;rfl
    ·conv=>lhs;unfold splitB
     rw [if_neg hd,h3];rfl
end Lx
namespace Pa
open Lx
inductive Tr
 | mk (k at_:Nat) (s:Bs) (n:Nat) (ps:List Bs) (l:List Tr)
def Tr.place:Tr->Nat
 | .mk _ a _ _ _ _=>a
def Tr.put:Tr->Nat->Tr
 | .mk k _ s n ps l,a=>.mk k a s n ps l
inductive Out
 | ok (l:List Tr) (r:List Tk)
 | bad (at_ er:Nat)
inductive NT
 | aI (n:Nat)
 | more (n:Nat) (x:Tr)
 | args (l:List Tr)
 | fin (k a:Nat) (s:Bs) (ps:List Bs)
 | inner
 | aM (l:List Tr)
 | stmt
 | stmts (l:List Tr)
def ak(b:Bs)(t:Tk):Bool:=decide (2 < t.k) && t.s==b
def sOf:Nat->List Bs
 | 0=>[[124]]
 | 1=>[[94]]
 | 2=>[[38]]
 | 3=>[[60,60],[62,62],[60,60,60]]
 | _=>[[43],[45]]
def onS(n:Nat)(t:Tk):Bool:=t.k==4 && (sOf n).contains t.s
def hd(xs:List Tr):Tr:=xs.headD (.mk 0 0 [] 0 [] [])
abbrev OO:=Option Out
def bnd(o:OO)(f:List Tr->List Tk->OO):OO:=
 match o with
 | none=>none
 | some (.bad a e)=>some (.bad a e)
 | some (.ok l r)=>f l r
def wrong(l:List Tk)(e:Nat):OO:=some (.bad (match l with | []=>0 | t :: _=>t.at_) e)
def must(b:Bs)(l:List Tk)(f:List Tk->OO):OO:=
 match l with
 | []=>wrong l 100
 | t :: r=>if ak b t=true then f r else wrong l 100
def bE(l:List Tk)(f:Bs->List Tk->OO):OO:=
 match l with
 | []=>wrong l 100
 | t :: r=>if t.k = 1 then f t.s r else wrong l 100
def aC:List Bs->List Tk->(List Bs->List Tk->OO)->OO
 | _,[],_=>wrong [] 100
 | ps,[t],f=>if t.k = 1 then f (ps ++ [t.s]) [] else wrong [t] 100
 | ps,t :: u :: r,f=>if t.k = 1 then (if ak [44] u=true then aC (ps ++ [t.s]) r f else f (ps ++ [t.s]) (u :: r)) else wrong (t :: u :: r) 100
def pF(num:Bs->Nat×Nat):Nat->NT->Nat->List Tk->OO
 | 0,_,_,_=>none
 | f+1,.aI n,d,l=>
  if n < 5 then bnd (pF num f (.aI (n+1)) d l) fun xs r=>pF num f (.more n (hd xs)) d r
  else match l with
   | []=>wrong [] 100
   | t :: r=>
    if 60 < d then wrong (t :: r) 150
    else if (ak [126] t || ak [45] t)=true then bnd (pF num f (.aI 5) (d+1) r) fun xs r'=>some (.ok [.mk 2 t.at_ t.s 0 [] xs] r')
    else if t.k = 2 then (if (num t.s).2 = 0 then some (.ok [.mk 0 t.at_ [] (num t.s).1 [] []] r) else wrong (t :: r) (if (num t.s).2 = 4 then 100 else 150))
    else if ak [40] t=true then bnd (pF num f (.aI 0) (d+1) r) fun xs r'=>must [41] r' fun r''=>some (.ok (xs.map (·.put t.at_)) r'')
    else bE (t :: r) fun s r=>match r with
     | []=>some (.ok [.mk 1 t.at_ s 0 [] []] [])
     | u :: r'=>if ak [40] u=true then bnd (pF num f (.aI 0) (d+1) r') fun xs r''=>bnd (pF num f (.args xs) (d+1) r'') fun ys r3=>must [41] r3 fun r4=>some (.ok [.mk 5 t.at_ s 0 [] ys] r4)
      else some (.ok [.mk 1 t.at_ s 0 [] []] (u :: r'))
 | f+1,.more n x,d,l=>
  match l with
  | []=>some (.ok [x] [])
  | t :: r=>if onS n t=true then bnd (pF num f (.aI (n+1)) d r) fun ys r'=>pF num f (.more n (.mk (if n = 3 then 4 else 3) x.place t.s 0 [] (x :: ys))) d r' else some (.ok [x] (t :: r))
 | f+1,.args xs,d,l=>
  match l with
  | []=>some (.ok xs [])
  | t :: r=>if ak [44] t=true then bnd (pF num f (.aI 0) d r) fun ys r'=>pF num f (.args (xs ++ ys)) d r' else some (.ok xs (t :: r))
 | f+1,.fin k a s ps,d,l=>bnd (pF num f (.aI 0) d l) fun xs r=>must [59] r fun r'=>some (.ok [.mk k a s 0 ps xs] r')
 | f+1,.inner,d,l=>
  match l with
  | []=>wrong [] 100
  | t :: r=>
   if 60 < d then wrong (t :: r) 150
   else if ak [102,111,114] t=true then bE r fun s r1=>must [105,110] r1 fun r2=>bnd (pF num f (.aI 0) d r2) fun xs r3=>must [46,46] r3 fun r4=>bnd (pF num f (.aI 0) d r4) fun ys r5=>must [123] r5 fun r6=>
    bnd (pF num f (.aM (xs ++ ys)) d r6) fun zs r7=>some (.ok [.mk 11 t.at_ s 0 [] zs] r7)
   else bE (t :: r) fun s r1=>must [61] r1 fun r2=>pF num f (.fin 10 t.at_ s []) d r2
 | f+1,.aM zs,d,l=>
  match l with
  | []=>wrong [] 100
  | t :: r=>if ak [125] t=true then some (.ok zs r) else bnd (pF num f .inner (d+1) (t :: r)) fun xs r'=>pF num f (.aM (zs ++ xs)) d r'
 | f+1,.stmt,d,l=>
  match l with
  | []=>wrong [] 100
  | t :: r=>
   if ak [115,101,99,114,101,116] t=true then aC [] r fun ps r1=>must [59] r1 fun r2=>some (.ok [.mk 6 t.at_ [] 0 ps []] r2)
   else if ak [112,117,98,108,105,99] t=true then aC [] r fun ps r1=>must [59] r1 fun r2=>some (.ok [.mk 7 t.at_ [] 0 ps []] r2)
   else if ak [111,117,116] t=true then bE r fun s r1=>must [61] r1 fun r2=>pF num f (.fin 8 t.at_ s []) d r2
   else if ak [115,104,111,119] t=true then bE r fun s r1=>must [61] r1 fun r2=>pF num f (.fin 9 t.at_ s []) d r2
   else if ak [102,110] t=true then bE r fun s r1=>must [40] r1 fun r2=>aC [] r2 fun ps r3=>must [41] r3 fun r4=>must [61] r4 fun r5=>pF num f (.fin 12 t.at_ s ps) d r5
   else pF num f .inner 0 (t :: r)
 | f+1,.stmts xs,d,l=>
  match l with
  | []=>wrong [] 100
  | t :: r=>if t.k = 0 then some (.ok xs (t :: r)) else bnd (pF num f .stmt 0 (t :: r)) fun ys r'=>pF num f (.stmts (xs ++ ys)) d r'
mutual
def sk:Tr->Tr
 | .mk k _ s n ps l=>.mk k 0 s n ps (skL l)
def skL:List Tr->List Tr
 | []=>[]
 | x :: l=>sk x :: skL l
end
def Out.sk:Out->Out
 | .ok l r=>.ok (skL l) (r.map fun t=>⟨t.k,t.s,0⟩)
 | .bad _ e=>.bad 0 e
def Sl(l l':List Tk):Prop:=l.map (fun t=>(⟨t.k,t.s,0⟩:Tk))=l'.map fun t=>⟨t.k,t.s,0⟩
end Pa
namespace Args
open Go Go.ChangeShapes Go.WideShapes Go.ChangeAt Go.RowKit
theorem add0(a:Addr):a.add 0=a:=by simp [Addr.add]
theorem add_add(a:Addr)(i j:Nat):(a.add i).add j=a.add (i+j):=by
 unfold Addr.add;by_cases hi:i = 0 <;> by_cases hj:j = 0 <;> simp [hi,hj,Nat.add_assoc]
def Af(w:World)(A:Option Addr)(xs:List Value):Prop:=∀ j u,xs[j]?=some u->∃ a,A=some a/\w.cell? (a.add j)=some u
theorem Af.nil(w:World)(A:Option Addr):Af w A []:=fun j u h=>Vc
theorem Af.below{w w':World}{A:Option Addr}{xs:List Value}(h:Af w A xs)(hb:Below w.heap.size w w'):Af w' A xs:=fun j u hj=>by
 obtain ⟨a,ha,hc⟩:=h j u hj;exact ⟨a,ha,by rw [hb.cell (World.block_lt_of_cell? w _ hc)];exact hc⟩
theorem Af.kept{w w':World}{A:Option Addr}{xs:List Value}(h:Af w A xs){B:Nat}(hB:B<=w.heap.size)(hb:Below B w w')(hA:∀ j u a,xs[j]?=some u->A=some a->(a.add j).block < B):Af w' A xs:=fun j u hj=>by
 obtain ⟨a,ha,hc⟩:=h j u hj;exact ⟨a,ha,by rw [hb.cell (hA j u a hj ha)];exact hc⟩
theorem Af.drewN{w:World}{A:Option Addr}{xs:List Value}(h:Af w A xs)(n:Nat):Af (w.drewN n) A xs:=h
theorem add_plain(b o j:Nat):(⟨b,o,none⟩:Addr).add j=⟨b,o+j,none⟩:=by unfold Addr.add;split <;> simp_all
theorem Af.at_{w:World}{A:Option Addr}{xs:List Value}(h:Af w A xs){j:Nat}{u:Value}(hj:xs[j]?=some u):∃ b o,A=some ⟨b,o,none⟩/\b < w.heap.size/\∀ i v,xs[i]?=some v->w.cell? ⟨b,o+i,none⟩=some v:=by
 have h0:0 < xs.length:=V47;obtain ⟨a,rfl,hc⟩:=h 0 _ (List.getElem?_eq_getElem h0);rw [add0] at hc;obtain ⟨b,o,sp⟩:=a;have hsp:sp=none:=by simpa using World.cell?_spot hc
 subst hsp;refine ⟨b,o,rfl,World.block_lt_of_cell? w _ hc,fun i v hi=>?_⟩;obtain ⟨a',e,hc'⟩:=h i v hi;obtain rfl:=Option.some.inj e;rw [add_plain] at hc';exact hc'
structure TI where
 s:ByteArray
 n:Int
def TI.cells(c:TI):List Value:=[.string c.s,.int .i64 c.n]
section
variable {H : Type} {enc : TypeId × Value -> H} {P : Program} {w : World} {base : Nat} {spare : Nat -> Bool} {held : Bool} {fuel : Nat}
end
def Sl(w:World)(v:Value)(n:Nat)(xs:List Value):Prop:=∃ A c,v = .slice A n c/\n<=c/\c<=maxLen/\Af w A xs
theorem Sl.below{w w':World}{v:Value}{n:Nat}{xs:List Value}(h:Sl w v n xs)(hb:Below w.heap.size w w'):Sl w' v n xs:=by
 obtain ⟨A,c,e,h1,h2,h3⟩:=h;exact ⟨A,c,e,h1,h2,h3.below hb⟩
theorem Sl.drew{w:World}{v:Value}{n:Nat}{xs:List Value}(h:Sl w v n xs):Sl w.drew v n xs:=h
theorem q0o{w:World}{base:Nat}{e:TypeId}{size n c:Nat}{A:Option Addr}{xs:List Value}(h:w.ownsRow base e size (.slice A n c) n xs):Af w A xs:=by
 rcases h.2 with ⟨e1,rfl⟩ | ⟨g,cap,cur,e1,_⟩
 ·have:xs=[]:=List.eq_nil_of_length_eq_zero (by simpa using h.1);subst this;exact Af.nil _ _
 ·injection e1 with e1 e2 e3
  subst e1;exact fun j u hj=>⟨_,rfl,h.cells (g:=g) rfl j u hj⟩
theorem sl_own{w:World}{base:Nat}{e:TypeId}{size n:Nat}{v:Value}{xs:List Value}(h:w.ownsRow base e size v n xs):Sl w v n xs:=by
 rcases h.2 with ⟨rfl,rfl⟩ | ⟨g,cap,cur,rfl,_,_,h1,h2,_⟩
 ·exact ⟨none,0,rfl,Nat.le_refl _,V2,q0o h⟩
 ·exact ⟨_,cap,rfl,h1,h2,q0o h⟩
section
variable {P : Program} {w : World}
theorem q5P(base:Nat)(t ty e:TypeId)(i:TypeInfo)(z:Value)(size bytes:Nat)(ht:P.underlying t=some (.slice e))(hi:P.info? e=some i)(hz:i.zero=some z)
  (hsize:i.size=size) (hby:i.bytes=bytes) (hzs:z.cells.size=size) (hsz:0 < size) (v:Value) (n:Nat) (xs:List Value) (hown:w.ownsRow base e size v n xs)
  (A:Option Addr) (m c:Nat) (news:List Value) (hl:news.length=m * size) (hL:Af w A news) (h1:∀ u∈news,u.oneCell'=true) (h63:n+m<=maxLen) (hbytes:(n+m) * bytes<=140737488355328) (hbase:base<=w.heap.size) :
  ∃ v' w',(Builtin.append_ #[t,t] ty #[v,.slice A m c]).run P w = .ok v' w'/\w'.ownsRow base e size v' (n+m) (xs ++ news)/\w.grownBy w' v.ownBlock:=by
 rcases A with _ | ad
 ·have hm:news=[]:=by
   cases news with
   | nil=>rfl
   | cons u r=>obtain ⟨a,h,_⟩:=hL 0 u rfl;cases h
  subst hm;have hm:m = 0:=by
   rcases Nat.eq_zero_or_pos m with h | h
   ·exact h
   ·have:=Nat.mul_pos h hsz;simp at hl;omega
  subst hm;have hr:(Builtin.append_ #[t,t] ty #[v,.slice none 0 c]).run P w = .ok v w:=by
   rcases hown.2 with ⟨rfl,rfl⟩ | ⟨g,cap,cur,rfl,_,_,hnc,_⟩
   ·simp [Builtin.append_,run_underlying ht,sizeOf,typeInfo,hi,Builtin.lenOf,Builtin.firstCells]
   ·simp [Builtin.append_,run_underlying ht,sizeOf,typeInfo,hi,Builtin.lenOf,Builtin.firstCells,hnc,storeCells]
  exact ⟨v,w,hr,by simpa using hown,World.grownBy.refl w _⟩
 ·obtain ⟨v',w',hr,h2,h3,_⟩:=run_append_own (P:=P) w base t ty e i z size bytes ht hi hz hsize hby hzs hsz v n xs hown ad m c news hl (fun j u hj=>by
   obtain ⟨a,ha,hc⟩:=hL j u hj;cases ha;exact hc) h1 h63 hbytes hbase
  exact ⟨v',w',hr,h2,h3⟩
theorem q7l{o:Oper}{a:Act}{K:Act->World->Prop}{Q:Exit->Act->World->Prop}(s x:Operand)(t:TypeId)
  (ho:o.op = .call { callee:=.builtin .append,args:=#[s,x],argTypes:=#[t,t] })
  (base:Nat) (e:TypeId) (i:TypeInfo) (z:Value) (size bytes:Nat) (ht:P.underlying t=some (.slice e)) (hi:P.info? e=some i) (hz:i.zero=some z)
  (hsize:i.size=size) (hby:i.bytes=bytes) (hzs:z.cells.size=size) (hsz:0 < size) (v:Value) (n:Nat) (xs:List Value) (hs:a.eval s=v) (hown:w.ownsRow base e size v n xs)
  (A:Option Addr) (m c:Nat) (news:List Value) (hx:a.eval x = .slice A m c) (hl:news.length=m * size) (hL:Af w A news) (h1:∀ u∈news,u.oneCell'=true) (h63:n+m<=maxLen) (hbytes:(n+m) * bytes<=140737488355328) (hbase:base<=w.heap.size)
  (h:∀ A' c' w',n+m<=c'->c'<=maxLen->w'.ownsRow base e size (.slice A' (n+m) c') (n+m) (xs ++ news)->w.grownBy w' v.ownBlock->K (a.put o.dst (.slice A' (n+m) c')) w'):o.wp P a w K Q:=by
 obtain ⟨v',w',hrun,h2,h3⟩:=q5P (P:=P) base t o.type e i z size bytes ht hi hz hsize hby hzs hsz v n xs hown A m c news hl hL h1 h63 hbytes hbase;unfold Oper.wp execOp;simp only [ho,resolve,invoke,builtin,Sem.run_bind,Sem.run_pure,Result.andThen_ok,List.map_toArray,List.map_cons,List.map_nil,hs,hx,hrun];obtain ⟨A',c',rfl,h4,h5,_⟩:=sl_own h2;exact h A' c' w' h4 h5 h2 h3
theorem q2k{ops:Array Oper}{rest:List Oper}{o:Oper}{a:Act}{Q:Exit->Act->World->Prop}(hgd:o.guard=none)(s x:Operand)(t:TypeId)
  (ho:o.op = .call { callee:=.builtin .append,args:=#[s,x],argTypes:=#[t,t] })
  (base:Nat) (e:TypeId) (i:TypeInfo) (z:Value) (size bytes:Nat) (ht:P.underlying t=some (.slice e)) (hi:P.info? e=some i) (hz:i.zero=some z)
  (hsize:i.size=size) (hby:i.bytes=bytes) (hzs:z.cells.size=size) (hsz:0 < size) (v:Value) (n:Nat) (xs:List Value) (hs:a.eval s=v) (hown:w.ownsRow base e size v n xs)
  (A:Option Addr) (m c:Nat) (news:List Value) (hx:a.eval x = .slice A m c) (hl:news.length=m * size) (hL:Af w A news) (h1:∀ u∈news,u.oneCell'=true) (h63:n+m<=maxLen) (hbytes:(n+m) * bytes<=140737488355328) (hbase:base<=w.heap.size)
  (h:∀ A' c' w',n+m<=c'->c'<=maxLen->w'.ownsRow base e size (.slice A' (n+m) c') (n+m) (xs ++ news)->w.grownBy w' v.ownBlock->wpList P ops Q rest (a.put o.dst (.slice A' (n+m) c')) w'):wpList P ops Q (o :: rest) a w:=
 wpList_plain hgd fun _ hK=>q7l s x t ho base e i z size bytes ht hi hz hsize hby hzs hsz v n xs hs hown A m c news hx hl hL h1 h63 hbytes hbase fun A' c' w' h2 h3 h4 h5=>hK _ _ (h A' c' w' h2 h3 h4 h5)
theorem cz(w:World){base:Nat}(hb:base<=w.heap.size)(e:TypeId)(size:Nat):(w.alloc (.cells #[] e)).ownsRow base e size (.slice (some ⟨w.heap.size,0,none⟩) 0 0) 0 []:=
 World.ownsRow_made w #[] 0 hb V2 V3
end
structure Upd(X:Nat->Prop)(w w':World):Prop where
 os:w'.os=w.os
 tape:w'.tape=w.tape
 output:w'.output=w.output
 size:w.heap.size<=w'.heap.size
 block:∀ k,k < w.heap.size->¬ X k->w'.heap[k]?=w.heap[k]?
section
variable {X Y : Nat -> Prop} {w w1 w' : World}
theorem Upd.refl(X:Nat->Prop)(w:World):Upd X w w:=⟨rfl,rfl,rfl,Nat.le_refl _,fun _ _ _=>rfl⟩
theorem Upd.trans(h:Upd X w w1)(k:Upd X w1 w'):Upd X w w':=
 ⟨k.os.trans h.os,k.tape.trans h.tape,k.output.trans h.output,Nat.le_trans h.size k.size,fun i hi hx=>(k.block i (Nat.lt_of_lt_of_le hi h.size) hx).trans (h.block i hi hx)⟩
theorem Upd.mono(h:Upd X w w')(hXY:∀ k,X k->Y k):Upd Y w w':=⟨h.os,h.tape,h.output,h.size,fun i hi hx=>h.block i hi fun hq=>hx (hXY i hq)⟩
theorem Upd.fresh(h:Upd X w w')(hX:∀ k,X k->k < w.heap.size->Y k):Upd Y w w':=⟨h.os,h.tape,h.output,h.size,fun i hi hx=>h.block i hi fun hq=>hx (hX i hq hi)⟩
theorem Upd.drew(h:Upd X w w'):Upd X w w'.drew:=⟨h.os,h.tape,h.output,h.size,h.block⟩
theorem Upd.drewN(h:Upd X w w')(n:Nat):Upd X w (w'.drewN n):=⟨h.os,h.tape,h.output,h.size,h.block⟩
theorem Upd.alloc(h:Upd X w w')(o:Obj):Upd X w (w'.alloc o):=
 ⟨h.os,h.tape,h.output,by simp;exact Nat.le_succ_of_le h.size,fun i hi hx=>(Below.heap_alloc w' o i (Nat.lt_of_lt_of_le hi h.size)).trans (h.block i hi hx)⟩
theorem Upd.setCell(h:Upd X w w'){p:Addr}(hp:p.block < w.heap.size->X p.block)(u:Value):Upd X w (w'.setCell p u):=
 ⟨h.os,h.tape,h.output,by have:=(Below.setCell (p:=p) (Below.refl 0 w') (Nat.zero_le _) u).size;exact Nat.le_trans h.size this,fun i hi hx=>(Below.heap_setCell w' p u i (fun e=>hx (by subst e;exact hp hi))).trans (h.block i hi hx)⟩
theorem Upd.of_below(h:Below w.heap.size w w')(X:Nat->Prop):Upd X w w':=⟨h.os,h.tape,h.output,h.size,fun i hi _=>h.block i hi⟩
theorem Upd.below(h:Upd X w w'){B:Nat}(hB:B<=w.heap.size)(hX:∀ k,X k->B<=k):Below B w w':=
 ⟨h.os,h.tape,h.output,h.size,fun i hi=>h.block i (Nat.lt_of_lt_of_le hi hB) fun hx=>by have:=hX i hx;omega⟩
theorem Upd.grown(h:Upd X w w1){row:Option Nat}(hg:w1.grownBy w' row)(hr:∀ k,row=some k->k < w.heap.size->X k):Upd X w w':=
 ⟨hg.os.trans h.os,hg.tape.trans h.tape,hg.output.trans h.output,Nat.le_trans h.size hg.size,fun i hi hx=>(hg.block i (Nat.lt_of_lt_of_le hi h.size) fun e=>hx (hr i e.symm hi)).trans (h.block i hi hx)⟩
theorem Upd.cell(h:Upd X w w'){p:Addr}(hp:p.block < w.heap.size)(hx:¬ X p.block):w'.cell? p=w.cell? p:=World.cell?_of_block (h.block _ hp hx)
theorem Upd.lies(h:Upd X w w'){A:Option Addr}{xs:List Value}(hL:Af w A xs)(hA:∀ b o,A=some ⟨b,o,none⟩->0 < xs.length->¬ X b):Af w' A xs:=fun j u hj=>by
 obtain ⟨b,o,rfl,hb,hc⟩:=hL.at_ hj;refine ⟨_,rfl,?_⟩;rw [Args.add_plain];exact (h.cell (p:=⟨b,o+j,none⟩) hb (hA b o rfl V47)).trans (hc j u hj)
end
def Aa(w:World)(g:Nat)(t:TypeId)(cs:Array Value):Prop:=w.heap[g]?=some (.cells cs t (0,0))
section
variable {X : Nat -> Prop} {w w' : World} {g : Nat} {t : TypeId} {cs : Array Value}
theorem Aa.lt(h:Aa w g t cs):g < w.heap.size:=(Array.getElem?_eq_some_iff.1 h).1
theorem Aa.cell(h:Aa w g t cs)(i:Nat):w.cell? ⟨g,i,none⟩=cs[i]?:=cell_of_row w g i cs t (0,0) h
theorem Aa.frozen(h:Aa w g t cs)(i:Nat):w.frozen? ⟨g,i,none⟩=false:=by
 unfold Aa at h;simp [World.frozen?,h]
theorem Aa.new(w:World)(t:TypeId)(cs:Array Value):Aa (w.alloc (.cells cs t)) w.heap.size t cs:=heap_alloc_new w _
theorem Aa.set(h:Aa w g t cs)(i:Nat)(u:Value):Aa (w.setCell ⟨g,i,none⟩ u) g t (cs.setIfInBounds i u):=by
 unfold Aa at h ⊢;simp [World.setCell,Array.getElem?_modify,h]
theorem Aa.far(h:Aa w g t cs){p:Addr}(hp:g≠p.block)(u:Value):Aa (w.setCell p u) g t cs:=(Below.heap_setCell w p u g hp).trans h
theorem Aa.drew(h:Aa w g t cs):Aa w.drew g t cs:=h
theorem Aa.alloc(h:Aa w g t cs)(o:Obj):Aa (w.alloc o) g t cs:=(Below.heap_alloc w o g h.lt).trans h
theorem Aa.upd(h:Aa w g t cs)(hu:Upd X w w')(hx:¬ X g):Aa w' g t cs:=(hu.block g h.lt hx).trans h
theorem Aa.below{B:Nat}(h:Aa w g t cs)(hb:Below B w w')(hg:g < B):Aa w' g t cs:=(hb.block g hg).trans h
end
theorem aS (w : World) (l : Array Value) (t : TypeId) : ∃ x, w.alloc (.cells l t) = x /\ Below w.heap.size w x /\ Aa x w.heap.size t l := ⟨_, rfl, (Below.refl _ _).alloc (Nat.le_refl _) _, Aa.new _ _ _⟩
end Args
namespace Args
open Go Go.RowKit
section
variable {P : Program} (w : World)
theorem q0M(base:Nat)(t ty e:TypeId)(i:TypeInfo)(z:Value)(size bytes:Nat)(ht:P.underlying t=some (.slice e))(hi:P.info? e=some i)(hz:i.zero=some z)
  (hsize:i.size=size) (hby:i.bytes=bytes) (hzs:z.cells.size=size) (hsz:0 < size)
  (v:Value) (n:Nat) (xs:List Value) (hown:w.ownsRow base e size v n xs)
  (a:Addr) (m c:Nat) (news:List Value) (hl:news.length=m * size) (hnews:∀ j u,news[j]?=some u->w.cell? (a.add j)=some u) (h1:∀ u∈news,u.oneCell'=true)
  (h63:n+m<=maxLen) (hbytes:(n+m) * bytes<=140737488355328) (hbase:base<=w.heap.size) (hm:0 < m) :
  ∃ v' w',(Builtin.append_ #[t,t] ty #[v,.slice (some a) m c]).run P w = .ok v' w'/\w'.ownsRow base e size v' (n+m) (xs ++ news)/\w.grownBy w' v.ownBlock /\
   (v'.ownBlock=v.ownBlock\/v'.ownBlock=some w.heap.size):=by
 obtain ⟨v',w',hr,h2,h3,_⟩:=run_append_own (P:=P) w base t ty e i z size bytes ht hi hz hsize hby hzs hsz v n xs hown a m c news hl hnews h1 h63 hbytes hbase;refine ⟨v',w',hr,h2,h3,?_⟩;subst hsize;subst hby;have hsmall:n+m<=9223372036854775807:=by simp only [maxLen] at h63;omega
 rcases hown.2 with ⟨rfl,rfl⟩ | ⟨g,cap,cur,rfl,hbg,hg,hnc,hcm,hcs,htake⟩
 ·have hr2:=run_append_nil (P:=P) w t ty e i z ht hi hz a m c news hl hnews V0 V0 (by have hb:=hbytes;simp only [Nat.zero_add] at hb;omega);rw [hr] at hr2;injection hr2 with e1 _
  rw [e1];exact .inr rfl
 ·by_cases hroom:n+m<=cap
  ·have hfit:n * i.size+news.length<=cur.size:=by rw [hl,hcs,<-Nat.add_mul];exact Nat.mul_le_mul_right _ hroom
   have hr2:=run_append_room (P:=P) w t ty e i ht hi g n cap cur hg a m c news hl hnews h1 hroom hfit;rw [hr] at hr2;injection hr2 with e1 _
   rw [e1];exact .inl rfl
  ·have holds:∀ j u,xs[j]?=some u->w.cell? ((⟨g,0,none⟩:Addr).add j)=some u:=hown.cells (g:=g) rfl;have hr2:=run_append_grow (P:=P) w t ty e i z ht hi hz ⟨g,0,none⟩ n cap xs hown.1 holds a m c news hl hnews V0 V0 (growslice_fits V0 hbytes);rw [hr] at hr2;injection hr2 with e1 _
   rw [e1];exact .inr rfl
theorem q30{F:Fence}{nn:Nat}{ops:Array Oper}{rest:List Oper}{o:Oper}{b:Act}{Q:Exit->Act->World->Prop}
  (hgd:o.guard=none) (s x:Operand) (t:TypeId) (hop:o.op=Op.call { callee:=Callee.builtin Builtin.append,args:=#[s,x],argTypes:=#[t,t] })
  (base:Nat) (e:TypeId) (i:TypeInfo) (z:Value) (size bytes:Nat) (ht:P.underlying t=some (.slice e)) (hi:P.info? e=some i) (hz:i.zero=some z)
  (hsize:i.size=size) (hby:i.bytes=bytes) (hzs:z.cells.size=size) (hsz:0 < size)
  (v:Value) (n:Nat) (xs:List Value) (hs:b.eval s=v) (hown:w.ownsRow base e size v n xs)
  (a:Addr) (m c:Nat) (news:List Value) (hx:b.eval x = .slice (some a) m c) (hl:news.length=m * size) (hnews:∀ j u,news[j]?=some u->w.cell? (a.add j)=some u) (h1:∀ u∈news,u.oneCell'=true)
  (h63:n+m<=maxLen) (hbytes:(n+m) * bytes<=140737488355328) (hbase:base<=w.heap.size) (hm:0 < m)
  (hK:∀ g c' w',w'.ownsRow base e size (.slice (some ⟨g,0,none⟩) (n+m) c') (n+m) (xs ++ news)->w.grownBy w' v.ownBlock->(some g=v.ownBlock\/g=w.heap.size)->wpListIn F nn P ops Q rest (b.put o.dst (.slice (some ⟨g,0,none⟩) (n+m) c')) w') :
  wpListIn F nn P ops Q (o :: rest) b w:=by
 refine wpListIn_plain hgd fun K hK'=>?_
 obtain ⟨v',w',hrun,r1,r2,r3⟩:=q0M (P:=P) w base t o.type e i z size bytes ht hi hz hsize hby hzs hsz v n xs hown a m c news hl hnews h1 h63 hbytes hbase hm;obtain ⟨g,c',rfl⟩:∃ g c',v' = .slice (some ⟨g,0,none⟩) (n+m) c':=by
  rcases r1.2 with ⟨_,h0⟩ | ⟨g,cap,cur,e1,_⟩
  ·omega
  ·exact ⟨g,cap,e1⟩
 unfold Oper.wpIn;refine ⟨?_,?_⟩
 ·simp [Oper.about,hop,resolve,Target.leads,Sem.run_pure]
 ·rw [Oper.semAt_plain F _ _ (by rw [hop];intro c hc';cases hc')];simp [execOp,hop,resolve,invoke,builtin,hs,hx,hrun,Result.andThen];refine hK' _ _ (hK g c' w' r1 r2 ?_);rcases r3 with h | h
  ·exact .inl h
  ·exact .inr (by simpa [Value.ownBlock] using h)
end
section
variable {P : Program} {w : World}
structure AppE(base:Nat)(e:TypeId)(size:Nat)(w:World)(v:Value)(n m:Nat)(xs:List Value)(g c':Nat)(w':World):Prop where
 own:w'.ownsRow base e size (.slice (some ⟨g,0,none⟩) (n+m) c') (n+m) xs
 grown:w.grownBy w' v.ownBlock
 at_:some g=v.ownBlock\/g=w.heap.size
theorem q0d{ops:Array Oper}{rest:List Oper}{o:Oper}{a:Act}{Q:Exit->Act->World->Prop}(hgd:o.guard=none)(s x:Operand)(t:TypeId)
  (ho:o.op = .call { callee:=.builtin .append,args:=#[s,x],argTypes:=#[t,t] })
  (base:Nat) (e:TypeId) (i:TypeInfo) (z:Value) (size bytes:Nat) (ht:P.underlying t=some (.slice e)) (hi:P.info? e=some i) (hz:i.zero=some z)
  (hsize:i.size=size) (hby:i.bytes=bytes) (hzs:z.cells.size=size) (hsz:0 < size) (v:Value) (n:Nat) (xs:List Value) (hs:a.eval s=v) (hown:w.ownsRow base e size v n xs)
  (A:Addr) (m c:Nat) (news:List Value) (hx:a.eval x = .slice (some A) m c) (hl:news.length=m * size) (hL:Af w (some A) news) (h1:∀ u∈news,u.oneCell'=true) (h63:n+m<=maxLen) (hbytes:(n+m) * bytes<=140737488355328) (hbase:base<=w.heap.size) (hm:0 < m)
  (h:∀ g c' w',AppE base e size w v n m (xs ++ news) g c' w'->wpList P ops Q rest (a.put o.dst (.slice (some ⟨g,0,none⟩) (n+m) c')) w'):wpList P ops Q (o :: rest) a w:=
 wpList_plain hgd fun _ hK=>by
  obtain ⟨v',w',hrun,h2,h3,h4⟩:=q0M (P:=P) w base t o.type e i z size bytes ht hi hz hsize hby hzs hsz v n xs hown A m c news hl (fun j u hj=>by
   obtain ⟨a,ha,hc⟩:=hL j u hj;cases ha;exact hc) h1 h63 hbytes hbase hm
  obtain ⟨g,c',rfl⟩:∃ g c',v' = .slice (some ⟨g,0,none⟩) (n+m) c':=by
   rcases h2.2 with ⟨_,h0⟩ | ⟨g,cap,cur,e1,_⟩
   ·omega
   ·exact ⟨g,cap,e1⟩
  unfold Oper.wp execOp;simp only [ho,resolve,invoke,builtin,Sem.run_bind,Sem.run_pure,Result.andThen_ok,List.map_toArray,List.map_cons,List.map_nil,hs,hx,hrun];refine hK _ _ (h g c' w' ⟨h2,h3,?_⟩);rcases h4 with h4 | h4
  ·exact .inl h4
  ·exact .inr (by simpa [Value.ownBlock] using h4)
theorem q11(w:World){lo:Nat}(hb:lo<=w.heap.size)(e:TypeId)(size n:Nat)(xs:List Value)(hx:xs.length=n * size)(hm:n<=maxLen):(w.alloc (.cells xs.toArray e)).ownsRow lo e size (.slice (some ⟨w.heap.size,0,none⟩) n n) n xs:=
 ⟨hx,.inr ⟨w.heap.size,n,xs.toArray,rfl,hb,heap_alloc_new w _,Nat.le_refl _,hm,Vo,by simp [<-hx]⟩⟩
theorem q06(w:World)(t:TypeId)(l:List Value):Af (w.alloc (.cells l.toArray t)) (some ⟨w.heap.size,0,none⟩) l:=fun j u hj=>⟨_,rfl,by
 rw [add_plain,Nat.zero_add,World.cell?_alloc_at _ _ _ _ rfl];simpa using hj⟩
end
end Args
namespace Pa
open Go Go.RowKit Lx Args
def ai(p:Bs):Value:=.string ⟨p.toArray⟩
def bG(k a:Nat)(s:Bs)(n:Nat)(A:Option Addr)(la cA:Nat)(B:Option Addr)(lb cB:Nat):List Value:=
 [.int .i64 (k:Int),.string ⟨s.toArray⟩,.int .u32 (n:Int),.int .i64 (a:Int),.slice A la cA,.slice B lb cB]
structure CapOk(n c:Nat):Prop where
 few:n<=100000
 le:n<=c
 cap:c<=maxLen
theorem own_cap{w:World}{lo:Nat}{e:TypeId}{size n c:Nat}{A:Option Addr}{xs:List Value}(h:w.ownsRow lo e size (.slice A n c) n xs)(hl:n<=100000):CapOk n c:=by
 rcases h.2 with ⟨h,h0⟩ | ⟨g,cap,cur,h,_,_,h1,h2,_⟩
 ·cases h;exact ⟨hl,Nat.le_refl _,V2⟩
 ·cases h;exact ⟨hl,h1,h2⟩
mutual
def Ak(N:Nat->Prop)(w:World):Tr->List Value->Prop
 | .mk k a s n ps l,cs=>∃ A cA B cB,cs=bG k a s n A l.length cA B ps.length cB/\CapOk l.length cA/\CapOk ps.length cB/\Af w B (ps.map ai)/\(∀ b o,B=some ⟨b,o,none⟩->ps≠[]->N b) /\
   ∃ css,Af w A css.flatten/\(∀ b o,A=some ⟨b,o,none⟩->l≠[]->N b)/\AJ N w l css
def AJ(N:Nat->Prop)(w:World):List Tr->List (List Value)->Prop
 | [],css=>css=[]
 | x :: l,css=>∃ c r,css=c :: r/\Ak N w x c/\AJ N w l r
end
mutual
theorem Ak.upd{N X:Nat->Prop}{w w':World}(hu:Upd X w w')(hN:∀ b,N b->¬ X b):∀ {x:Tr} {cs:List Value},Ak N w x cs->Ak N w' x cs
 | .mk _ _ _ _ ps l,_,h=>by
  unfold Ak at h ⊢;obtain ⟨A,cA,B,cB,h1,h2,h3,h4,h5,css,h6,h7,h8⟩:=h;refine ⟨A,cA,B,cB,h1,h2,h3,hu.lies h4 fun b o e hl=>hN b (h5 b o e fun e2=>?_),h5,css,?_,h7,AJ.upd hu hN h8⟩
  ·rw [e2] at hl;simp at hl
  ·refine hu.lies h6 fun b o e hl=>hN b (h7 b o e fun e2=>?_)
   subst e2;unfold AJ at h8;subst h8;simp at hl
theorem AJ.upd{N X:Nat->Prop}{w w':World}(hu:Upd X w w')(hN:∀ b,N b->¬ X b):∀ {l:List Tr} {css:List (List Value)},AJ N w l css->AJ N w' l css
 | [],_,h=>by unfold AJ at h ⊢;exact h
 | x :: l,_,h=>by
  unfold AJ at h ⊢;obtain ⟨c,r,h1,h2,h3⟩:=h;exact ⟨c,r,h1,Ak.upd hu hN h2,AJ.upd hu hN h3⟩
end
theorem q3i{N:Nat->Prop}{w:World}{x:Tr}{cs:List Value}(h:Ak N w x cs):cs.length = 6:=by
 cases x;unfold Ak at h;obtain ⟨_,_,_,_,rfl,_⟩:=h;rfl
theorem q4S{N:Nat->Prop}{w:World}:∀ {l:List Tr} {css:List (List Value)},AJ N w l css->css.length=l.length/\css.flatten.length=l.length * 6
 | [],_,h=>by unfold AJ at h;subst h;exact ⟨rfl,rfl⟩
 | x :: l,_,h=>by
  unfold AJ at h;obtain ⟨c,r,rfl,h2,h3⟩:=h;have h4:=q4S h3;have h5:=q3i h2;simp only [List.length_cons,List.flatten_cons,List.length_append];omega
mutual
theorem Ak.mono{N N':Nat->Prop}{w:World}(hN:∀ b,N b->b < w.heap.size->N' b):∀ {x:Tr} {cs:List Value},Ak N w x cs->Ak N' w x cs
 | .mk _ _ _ _ ps l,_,h=>by
  unfold Ak at h ⊢;obtain ⟨A,cA,B,cB,h1,h2,h3,h4,h5,css,h6,h7,h8⟩:=h;refine ⟨A,cA,B,cB,h1,h2,h3,h4,fun b o e hne=>hN b (h5 b o e hne) ?_,css,h6,fun b o e hne=>hN b (h7 b o e hne) ?_,AJ.mono hN h8⟩
  ·cases ps with
   | nil=>exact absurd rfl hne
   | cons p ps=>
    obtain ⟨b',o',e',hb,_⟩:=h4.at_ (j:=0) (u:=ai p) rfl;rw [e] at e';cases e';exact hb
  ·have hl:=(q4S h8).2;cases l with
   | nil=>exact absurd rfl hne
   | cons y l=>
    cases hc:css.flatten with
    | nil=>rw [hc] at hl;simp at hl
    | cons u us=>
     obtain ⟨b',o',e',hb,_⟩:=h6.at_ (j:=0) (u:=u) (by rw [hc];rfl);rw [e] at e';cases e';exact hb
theorem AJ.mono{N N':Nat->Prop}{w:World}(hN:∀ b,N b->b < w.heap.size->N' b):∀ {l:List Tr} {css:List (List Value)},AJ N w l css->AJ N' w l css
 | [],_,h=>by unfold AJ at h ⊢;exact h
 | x :: l,_,h=>by
  unfold AJ at h ⊢;obtain ⟨c,r,h1,h2,h3⟩:=h;exact ⟨c,r,h1,Ak.mono hN h2,AJ.mono hN h3⟩
end
theorem q1R{N:Nat->Prop}{w:World}:∀ {l:List Tr} {css:List (List Value)} {l':List Tr} {css':List (List Value)},AJ N w l css->AJ N w l' css'->AJ N w (l ++ l') (css ++ css')
 | [],_,_,_,h,h'=>by unfold AJ at h;subst h;exact h'
 | x :: l,_,_,_,h,h'=>by
  unfold AJ at h;obtain ⟨c,r,rfl,h2,h3⟩:=h;show AJ N w (x :: (l ++ _)) (c :: (r ++ _));unfold AJ;exact ⟨c,_,rfl,h2,q1R h3 h'⟩
theorem q12{N:Nat->Prop}{w:World}{x:Tr}{c:List Value}(h:Ak N w x c):AJ N w [x] [c]:=by
 unfold AJ;exact ⟨c,[],rfl,h,V0C⟩
structure AY(e:TypeId)(lo:Nat)(w:World)(g c:Nat)(xs:List Tr):Prop where
 ex:∃ css,w.ownsRow lo e 6 (.slice (some ⟨g,0,none⟩) xs.length c) xs.length css.flatten/\AJ (fun b=>lo<=b/\b≠g) w xs css
theorem q0Q{w:World}{lo:Nat}{e:TypeId}{size g n c:Nat}{xs:List Value}(h:w.ownsRow lo e size (.slice (some ⟨g,0,none⟩) n c) n xs):lo<=g/\g < w.heap.size:=by
 rcases h.2 with ⟨h,_⟩ | ⟨g',cap,cur,h,hb,hh,_⟩
 ·cases h
 ·cases h;exact V1S
theorem q0O{X:Nat->Prop}{w w':World}{base:Nat}{e:TypeId}{size n g c:Nat}{xs:List Value}(h:w.ownsRow base e size (.slice (some ⟨g,0,none⟩) n c) n xs)(hu:Upd X w w')(hX:¬ X g):w'.ownsRow base e size (.slice (some ⟨g,0,none⟩) n c) n xs:=by
 have hg:=(q0Q h).2;obtain ⟨h1,h2⟩:=h;refine ⟨h1,?_⟩;rcases h2 with ⟨h2,_⟩ | ⟨g',cap,cur,e1,h3,h4,h5⟩
 ·cases h2
 ·cases e1;exact .inr ⟨g,_,cur,rfl,h3,(hu.block _ hg hX).trans h4,h5⟩
theorem AY.upd{X:Nat->Prop}{e:TypeId}{lo:Nat}{w w':World}{g c:Nat}{xs:List Tr}(h:AY e lo w g c xs)(hu:Upd X w w')(hX:∀ b,X b->b < lo):AY e lo w' g c xs:=by
 obtain ⟨css,h1,h2⟩:=h;have hg:=q0Q h1;exact ⟨css,q0O h1 hu fun hx=>by have:=hX g hx;omega,h2.upd hu fun b hb hx=>V11⟩
theorem AY.push{e:TypeId}{lo:Nat}{w w2 w3:World}{g c g' c':Nat}{xs:List Tr}{x:Tr}{cs:List Value}{css:List (List Value)}(h2:AJ (fun b=>lo<=b/\b≠g) w2 xs css)
  (hx:Ak (fun b=>w.heap.size<=b) w2 x cs) (hg:g < w.heap.size) (hlo:lo<=w.heap.size) (h3:w3.ownsRow lo e 6 (.slice (some ⟨g',0,none⟩) (xs.length+1) c') (xs.length+1) (css.flatten ++ cs)) (h4:w2.grownBy w3 (Value.slice (some ⟨g,0,none⟩) xs.length c).ownBlock)
  (h5:some g'=(Value.slice (some ⟨g,0,none⟩) xs.length c).ownBlock\/g'=w2.heap.size):AY e lo w3 g' c' (xs ++ [x]):=by
 have hu:Upd (fun b=>b=g) w2 w3:=(Upd.refl _ w2).grown h4 fun k hk _=>Vx
 have hg':∀ b,b≠g->b < w2.heap.size->b≠g':=fun b hb hs e=>by
  rcases h5 with h5 | h5
  ·cases h5;exact hb e
  ·omega
 refine ⟨css ++ [cs],?_,?_⟩
 ·rw [List.length_append,List.flatten_append];simpa using h3
 ·have a1:AJ (fun b=>lo<=b/\b≠g/\b≠g') w2 xs css:=h2.mono fun b hb hs=>⟨hb.1,hb.2,hg' b hb.2 hs⟩
  have a2:AJ (fun b=>lo<=b/\b≠g/\b≠g') w2 [x] [cs]:=q12 (hx.mono fun b hb hs=>⟨V0,V0,hg' b V0 hs⟩);refine ((q1R a1 a2).upd hu fun b hb e=>hb.2.1 e).mono fun b hb _=>⟨hb.1,hb.2.2⟩
theorem AY.first{e:TypeId}{lo:Nat}{w1:World}{x:Tr}{cs:List Value}(hT:Ak (fun b=>lo<=b) w1 x cs)(hlo:lo<=w1.heap.size):AY e lo (w1.alloc (.cells cs.toArray e)) w1.heap.size 1 [x]:=by
 refine ⟨[cs],?_,?_⟩
 ·have:=q11 w1 hlo e 6 1 cs (by rw [q3i hT]) V2;simpa using this
 ·exact (q12 (hT.mono (N':=fun b=>lo<=b/\b≠w1.heap.size) fun b hb hs=>⟨hb,V0⟩)).upd ((Upd.refl (fun _=>False) w1).alloc _) (fun _ _ h=>h)
theorem q1D{e:TypeId}{lo bp:Nat}{wr w1 w8:World}{g c g8 c8:Nat}{xs:List Tr}{css:List (List Value)}{x:Tr}{cs:List Value}(how:wr.ownsRow lo e 6 (.slice (some ⟨g,0,none⟩) xs.length c) xs.length css.flatten)(hts:AJ (fun b=>lo<=b/\b≠g) wr xs css)(hlt:bp < lo)
  (hU:Upd (fun b=>b=bp) wr w1) (hT:Ak (fun b=>wr.heap.size<=b) w1 x cs) (hE:AppE lo e 6 (w1.alloc (.cells cs.toArray e)) (.slice (some ⟨g,0,none⟩) xs.length c) xs.length 1 (css.flatten ++ cs) g8 c8 w8) :
  AY e lo w8 g8 c8 (xs ++ [x])/\(∀ w,w.heap.size<=lo->Upd (fun b=>b=bp) w wr->Upd (fun b=>b=bp) w w8)/\Upd (fun b=>b=g) w1 w8:=by
 have hg:=q0Q how;have ha:Upd (fun _=>False) w1 (w1.alloc (.cells cs.toArray e)):=(Upd.refl _ w1).alloc _;refine ⟨AY.push (w:=wr) ((hts.upd hU fun b hb e=>V0).upd ha fun _ _ h=>h) (hT.upd ha fun _ _ h=>h) hg.2 V0 hE.own hE.grown hE.at_,fun w hw hu=>?_,?_⟩
 ·exact ((hu.trans hU).alloc _).grown hE.grown fun k hk hs=>by
   exact V1z
 ·exact ((Upd.refl (fun b=>b=g) w1).alloc _).grown hE.grown fun k hk _=>Vx
theorem AY.node{e:TypeId}{lo:Nat}{w:World}{g c:Nat}{xs:List Tr}(h:AY e lo w g c xs)(hl:xs.length<=100000)(k a n:Nat)(s:Bs):Ak (fun b=>lo<=b) w (.mk k a s n [] xs) (bG k a s n (some ⟨g,0,none⟩) xs.length c none 0 0):=by
 obtain ⟨css,h1,h2⟩:=h;unfold Ak;refine ⟨_,_,none,0,rfl,own_cap h1 hl,⟨V3,V3,V2⟩,Af.nil _ _,fun b o e=>VI,css,?_,fun b o e _=>?_,h2.mono fun b hb _=>hb.1⟩
 ·exact V3l
 ·cases e;exact (q0Q h1).1
theorem q1S{N:Nat->Prop}(w:World)(k a n:Nat)(s:Bs):Ak N w (.mk k a s n [] []) (bG k a s n none 0 0 none 0 0):=by
 unfold Ak;exact ⟨none,0,none,0,rfl,⟨V3,V3,V2⟩,⟨V3,V3,V2⟩,Af.nil _ _,fun b o e=>VI,[],Af.nil _ _,fun b o e=>VI,V0C⟩
end Pa
end Go.Proofs.YtcgibpdjfgjldaaGreatDoor
