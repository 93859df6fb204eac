/- DERIVED. LxSpec, LxPl, PaLx, PaLy, PaLz, PaSpec, AppF, AppW. By an AI agent. -/
import Derived.Lib.IndexMore
import Derived.Test.YtdhoemlomojfaaaGreatDoorW02
import Derived.OwnWalkIn
import Derived.RegionTactic
namespace Go.Proofs.YtdhoemlomojfaaaGreatDoor.Lx
abbrev Bs:=List UInt8
def letB(c:UInt8):Bool:=(65≤c.toNat && c.toNat≤90) || (97≤c.toNat && c.toNat≤122)
def numB(c:UInt8):Bool:=48≤c.toNat && c.toNat≤57
def onB(word:Bool)(c:UInt8):Bool:=letB c || numB c || (word && c==95)
def runL(w:Bool):Bs→Nat
 | []=>0
 | c :: r=>if onB w c then runL w r+1 else 0
def skipL:Bool→Bs→Nat
 | _,[]=>0
 | true,c :: r=>if c==10 then skipL false r+1 else skipL true r+1
 | false,c :: r=>if c==32 || c==9 || c==10 then skipL false r+1 else if c==47 && r.head?==some 47 then skipL true r+1 else 0
def words7:List Bs:=[[115,101,99,114,101,116],[112,117,98,108,105,99],[111,117,116],[115,104,111,119],[102,111,114],[105,110],[102,110]]
def wordB(s:Bs):Bool:=words7.contains s
def signs2:List Bs:=[[60,60],[62,62],[46,46]]
def signs1:Bs:=[61,59,44,40,41,123,125,43,45,38,124,94,126]
def tokC(c:UInt8)(r:Bs):Option (Nat×Nat):=
 if letB c=true then
  if wordB (c :: r.take (runL true r))=true then some (3,runL true r+1) else if 32 < runL true r+1 then none else some (1,runL true r+1)
 else if numB c=true then some (2,runL false r+1)
 else if (c :: r).take 3=[60,60,60] then some (4,3)
 else if (c :: r).take 2∈signs2 then some (4,2)
 else if c∈signs1 then some (4,1)
 else none
structure Tk where
 k:Nat
 s:Bs
 at_:Nat
 deriving DecidableEq
structure Wd where
 l:List Tk
 at_:Nat
 er:Nat
def Wd.cons(t:Tk)(w:Wd):Wd:=if w.er = 0 then ⟨t :: w.l,w.at_,w.er⟩ else w
def goL:Nat→Bs→Nat→Nat→Wd
 | 0,_,_,_=>⟨[],0,0⟩
 | f+1,bs,i,n=>
  match bs with
  | []=>if n = 4000 then ⟨[],i,150⟩ else ⟨[⟨0,[],i⟩],0,0⟩
  | c :: r=>
   match tokC c r with
   | none=>⟨[],i,100⟩
   | some (k,m)=>if n = 4000 then ⟨[],i,150⟩ else
    Wd.cons ⟨k,(c :: r).take m,i⟩ (goL f (((c :: r).drop m).drop (skipL false ((c :: r).drop m))) (i+m+skipL false ((c :: r).drop m)) (n+1))
def wordsL(s:Bs):Wd:=if 20000 < s.length then ⟨[],0,150⟩ else goL (s.length+1) (s.drop (skipL false s)) (skipL false s) 0
theorem runL_le(w:Bool):∀ r:Bs,runL w r≤r.length
 | []=>Nat.le_refl _
 | c :: r=>by
  unfold runL;split
  ·have:=runL_le w r;simp;omega
  ·exact Nat.zero_le _
theorem skipL_le:∀ (q:Bool) (r:Bs),skipL q r≤r.length
 | true,[]=>Nat.le_refl _
 | false,[]=>Nat.le_refl _
 | true,c :: r=>by
  unfold skipL;have h1:=skipL_le false r;have h2:=skipL_le true r;split <;> simp <;> omega
 | false,c :: r=>by
  unfold skipL;have h1:=skipL_le false r;have h2:=skipL_le true r;split
  ·simp;omega
  ·split
   ·simp;omega
   ·exact Nat.zero_le _
theorem tok_len{c:UInt8}{r:Bs}{k m:Nat}(h:tokC c r=some (k,m)):1≤m∧m≤(c :: r).length∧1≤k:=by
 have ht:=runL_le true r;have hf:=runL_le false r;unfold tokC at h;split at h
 ·split at h
  ·cases h;simp;omega
  ·split at h
   ·cases h
   ·cases h;simp;omega
 ·split at h
  ·cases h;simp;omega
  ·split at h
   ·rename_i h3;cases h;have h4:((c :: r).take 3).length = 3:=by rw [h3];rfl
    rw [List.length_take] at h4;omega
   ·split at h
    ·rename_i h3;cases h;have h4:((c :: r).take 2).length = 2:=by
      simp only [signs2,List.mem_cons,List.not_mem_nil,or_false] at h3;rcases h3 with h3 | h3 | h3 <;> rw [h3] <;> rfl
     rw [List.length_take] at h4;omega
    ·split at h
     ·cases h;simp
     ·cases h
theorem runL_cons(w:Bool)(c:UInt8)(r:Bs):runL w (c :: r)=if onB w c=true then runL w r+1 else 0:=rfl
theorem go_ok:∀ (f:Nat) (bs:Bs) (i n:Nat),bs.length < f→(goL f bs i n).er = 0 →
  (bs=[]∧n≠4000∧goL f bs i n=⟨[⟨0,[],i⟩],0,0⟩) ∨
  ∃ c r k m,bs=c :: r∧tokC c r=some (k,m)∧n≠4000∧(goL (f - 1) (((c :: r).drop m).drop (skipL false ((c :: r).drop m))) (i+m+skipL false ((c :: r).drop m)) (n+1)).er = 0 ∧
   goL f bs i n=⟨⟨k,(c :: r).take m,i⟩ :: (goL (f - 1) (((c :: r).drop m).drop (skipL false ((c :: r).drop m))) (i+m+skipL false ((c :: r).drop m)) (n+1)).l,(goL (f - 1) (((c :: r).drop m).drop (skipL false ((c :: r).drop m))) (i+m+skipL false ((c :: r).drop m)) (n+1)).at_,0⟩ ∧
   (((c :: r).drop m).drop (skipL false ((c :: r).drop m))).length < f - 1
 | 0,bs,i,n,hf,_=>by omega
 | f+1,[],i,n,hf,h=>by
  by_cases hn:n = 4000
  ·subst hn;exact absurd h (by show ¬ (150:Nat) = 0;decide)
  ·refine .inl ⟨rfl,hn,?_⟩;show (if n = 4000 then _ else _)=_;rw [if_neg hn]
 | f+1,c :: r,i,n,hf,h=>by
  have e:goL (f+1) (c :: r) i n=match tokC c r with
   | none=>⟨[],i,100⟩
   | some (k,m)=>if n = 4000 then ⟨[],i,150⟩ else
    Wd.cons ⟨k,(c :: r).take m,i⟩ (goL f (((c :: r).drop m).drop (skipL false ((c :: r).drop m))) (i+m+skipL false ((c :: r).drop m)) (n+1)):=rfl
  rcases ht:tokC c r with _ | ⟨k,m⟩
  ·rw [e,ht] at h;exact absurd h (by show ¬ (100:Nat) = 0;decide)
  ·rw [e,ht] at h;simp only at h;by_cases hn:n = 4000
   ·rw [if_pos hn] at h;exact absurd h (by show ¬ (150:Nat) = 0;decide)
   ·rw [if_neg hn] at h;have hw:(goL f (((c :: r).drop m).drop (skipL false ((c :: r).drop m))) (i+m+skipL false ((c :: r).drop m)) (n+1)).er = 0:=by
     unfold Wd.cons at h;split at h
     ·assumption
     ·exact h
    have hm:=tok_len ht;refine .inr ⟨c,r,k,m,rfl,ht,hn,hw,?_,?_⟩
    ·rw [e,ht];simp only;rw [if_neg hn];unfold Wd.cons;rw [if_pos hw];exact congrArg (Wd.mk _ _) hw
    ·rw [List.length_drop,List.length_drop];omega
def Tk.same(a b:Tk):Prop:=a.k=b.k∧a.s=b.s
theorem go_first:∀ (f:Nat) (bs:Bs) (i n:Nat),bs.length < f→(goL f bs i n).er = 0→∃ t l,(goL f bs i n).l=t :: l∧(bs=[]→t=⟨0,[],i⟩∧l=[])∧(bs≠[]→l≠[]∧∃ c r k m,bs=c :: r∧tokC c r=some (k,m)∧t=⟨k,(c :: r).take m,i⟩):=fun f bs i n hf h=>by
 rcases go_ok f bs i n hf h with ⟨rfl,hn,e⟩ | ⟨c,r,k,m,rfl,ht,hn,hw,e,hl⟩
 ·exact ⟨_,_,by rw [e],fun _=>⟨rfl,rfl⟩,fun h=>absurd rfl h⟩
 ·refine ⟨_,_,by rw [e],fun h=>by (cases h),fun _=>⟨fun hl0=>?_,c,r,k,m,rfl,ht,rfl⟩⟩;rcases go_ok (f - 1) _ _ _ hl hw with ⟨_,_,e2⟩ | ⟨_,_,_,_,_,_,_,_,e2,_⟩
  ·rw [e2] at hl0;cases hl0
  ·rw [e2] at hl0;cases hl0
theorem go_order(s:Bs):∀ (f:Nat) (bs:Bs) (i n:Nat),bs.length < f→(goL f bs i n).er = 0→s.drop i=bs→i≤s.length →
  ∀ (j:Nat) (t:Tk),(goL f bs i n).l[j]?=some t→i≤t.at_∧t.at_+t.s.length≤s.length∧(s.drop t.at_).take t.s.length=t.s∧(t.k = 0↔j+1=(goL f bs i n).l.length)∧(∀ u,0 < j→(goL f bs i n).l[j - 1]?=some u→u.at_+u.s.length≤t.at_):=by
 intro f
 induction f with
 | zero=>intro bs i n hf;omega
 | succ f ih=>
  intro bs i n hf h hs hi j t hj;rcases go_ok (f+1) bs i n hf h with ⟨rfl,hn,e⟩ | ⟨c,r,k,m,rfl,ht,hn,hw,e,hl⟩
  ·rw [e] at hj ⊢;cases j with
   | succ j=>simp at hj
   | zero=>
    have ht:t=⟨0,[],i⟩:=by simpa using hj.symm
    subst ht;exact ⟨Nat.le_refl _,by simpa using hi,rfl,by simp,fun u h0=>absurd h0 (by omega)⟩
  ·simp only [Nat.add_sub_cancel] at hw e hl;have hm:=tok_len ht;have hlen:(s.drop i).length=(c :: r).length:=by rw [hs]
   have hsk:=skipL_le false ((c :: r).drop m);have hdm:((c :: r).drop m).length=(c :: r).length - m:=List.length_drop;have hB:s.drop (i+m+skipL false ((c :: r).drop m))=((c :: r).drop m).drop (skipL false ((c :: r).drop m)):=by
    rw [←List.drop_drop,←List.drop_drop,hs]
   have hi2:i+m+skipL false ((c :: r).drop m)≤s.length:=by rw [List.length_drop] at hlen;omega
   have him:i+m≤i+m+skipL false ((c :: r).drop m):=by omega
   obtain ⟨t1,l1,hl1,h0,h1⟩:=go_first f _ _ (n+1) hl hw;have hih:=ih _ _ (n+1) hl hw hB hi2;generalize ((c :: r).drop m).drop (skipL false ((c :: r).drop m))=B at *;generalize i+m+skipL false ((c :: r).drop m)=i2 at *;have htl:((c :: r).take m).length=m:=by rw [List.length_take];omega
   rw [e] at hj ⊢;cases j with
   | zero=>
    have htt:t=⟨k,(c :: r).take m,i⟩:=by simpa using hj.symm
    subst htt;refine ⟨Nat.le_refl _,?_,?_,?_,fun u h0=>absurd h0 (by omega)⟩
    ·show i+((c :: r).take m).length≤_;rw [htl];rw [List.length_drop] at hlen;omega
    ·show (s.drop i).take ((c :: r).take m).length=_;rw [htl,hs]
    ·constructor
     ·intro hk;exact absurd hk (by show ¬ k = 0;omega)
     ·intro hx;rw [List.length_cons,hl1,List.length_cons] at hx;omega
   | succ j=>
    have hj2:(goL f B i2 (n+1)).l[j]?=some t:=by simpa using hj
    obtain ⟨a1,a2,a3,a4,a5⟩:=hih j t hj2;refine ⟨by omega,a2,a3,?_,?_⟩
    ·rw [List.length_cons];constructor
     ·intro hk;have:=a4.1 hk;omega
     ·intro hx;exact a4.2 (by omega)
    ·intro u _ hu;cases j with
     | zero=>
      have huu:u=⟨k,(c :: r).take m,i⟩:=by simpa using hu.symm
      subst huu;show i+((c :: r).take m).length≤t.at_;rw [htl];omega
     | succ j=>exact a5 u (by omega) (by simpa using hu)
theorem words_order(s:Bs)(h:(wordsL s).er = 0):(wordsL s).l≠[]∧∀ (j:Nat) (t:Tk),(wordsL s).l[j]?=some t→t.at_+t.s.length≤s.length∧(s.drop t.at_).take t.s.length=t.s∧(t.k = 0↔j+1=(wordsL s).l.length)∧(∀ u,0 < j→(wordsL s).l[j - 1]?=some u→u.at_+u.s.length≤t.at_):=by
 have e:wordsL s=goL (s.length+1) (s.drop (skipL false s)) (skipL false s) 0:=by
  unfold wordsL at h ⊢;split at h
  ·exact absurd h (by show ¬ (150:Nat) = 0;decide)
  ·rename_i hs;rw [if_neg hs]
 rw [e] at h ⊢;have hf:(s.drop (skipL false s)).length < s.length+1:=by rw [List.length_drop];omega
 refine ⟨?_,fun j t hj=>(go_order s (s.length+1) _ _ 0 hf h rfl (skipL_le false s) j t hj).2⟩;obtain ⟨t1,l1,hl1,_,_⟩:=go_first (s.length+1) _ _ 0 hf h;rw [hl1];exact List.cons_ne_nil _ _
theorem go_err:∀ (f:Nat) (bs:Bs) (i n:Nat),(goL f bs i n).er≠0→(goL f bs i n).l=[]
 | 0,_,_,_,h=>absurd rfl h
 | f+1,[],i,n,h=>by
  by_cases hn:n = 4000
  ·subst hn;rfl
  ·exact absurd (show (if n = 4000 then (⟨[],i,150⟩:Wd) else ⟨[⟨0,[],i⟩],0,0⟩).er = 0 by rw [if_neg hn]) h
 | f+1,c :: r,i,n,h=>by
  have e:goL (f+1) (c :: r) i n=match tokC c r with
   | none=>⟨[],i,100⟩
   | some (k,m)=>if n = 4000 then ⟨[],i,150⟩ else
    Wd.cons ⟨k,(c :: r).take m,i⟩ (goL f (((c :: r).drop m).drop (skipL false ((c :: r).drop m))) (i+m+skipL false ((c :: r).drop m)) (n+1)):=rfl
  rcases ht:tokC c r with _ | ⟨k,m⟩
  ·rw [e,ht]
  ·rw [e,ht] at h ⊢;simp only at h ⊢;by_cases hn:n = 4000
   ·rw [if_pos hn]
   ·rw [if_neg hn] at h ⊢;unfold Wd.cons at h ⊢;split at h
    ·rename_i h0;exact absurd h0 h
    ·rename_i h0;rw [if_neg h0];exact go_err f _ _ _ h0
theorem words_err(s:Bs)(h:(wordsL s).er≠0):(wordsL s).l=[]:=by
 unfold wordsL at h ⊢;split at h
 ·rename_i hs;rw [if_pos hs]
 ·rename_i hs;rw [if_neg hs];exact go_err _ _ _ _ h
theorem words_long(s:Bs)(h:20000 < s.length):wordsL s=⟨[],0,150⟩:=by unfold wordsL;rw [if_pos h]
def restL(r:Bs):Bs:=r.drop (skipL false r)
def blk3:Bs:=[32,9,10]
theorem skip_blk{c:UInt8}{r:Bs}(h:blk3.contains c=true):skipL false (c :: r)=skipL false r+1:=by
 have h':(c==32 || c==9 || c==10)=true:=by simpa [blk3,Bool.or_assoc] using h
 show (if c==32 || c==9 || c==10 then _ else _)=_;rw [if_pos h']
theorem rest_trim:∀ r:Bs,restL (r.dropWhile (blk3.contains ·))=restL r
 | []=>rfl
 | c :: r=>by
  rw [List.dropWhile_cons];split
  ·rename_i h;rw [rest_trim r];unfold restL;rw [skip_blk h,List.drop_succ_cons]
  ·rfl
theorem trim_head{r:Bs}{c:UInt8}{u:Bs}(h:r.dropWhile (blk3.contains ·)=c :: u):blk3.contains c=false:=by
 induction r with
 | nil=>cases h
 | cons d r ih=>
  rw [List.dropWhile_cons] at h;split at h
  ·exact ih h
  ·rename_i hd;cases h;simpa using hd
theorem rest_stop{r t:Bs}(h:r.dropWhile (blk3.contains ·)=t)(h2:[47,47].isPrefixOf t=false):restL t=t:=by
 cases t with
 | nil=>rfl
 | cons c u=>
  have hc:=trim_head h;have hc':(c==32 || c==9 || c==10)=false:=by simpa [blk3,Bool.or_assoc] using hc
  have hs:skipL false (c :: u) = 0:=by
   show (if c==32 || c==9 || c==10 then skipL false u+1 else if c==47 && u.head?==some 47 then skipL true u+1 else 0) = 0;rw [if_neg (by simp [hc']),if_neg];intro h47;cases u with
   | nil=>simp at h47
   | cons d u=>
    simp at h47;simp [List.isPrefixOf,h47.1,h47.2] at h2
  unfold restL;rw [hs,List.drop_zero]
def aft:Bs→Bs
 | []=>[]
 | c :: r=>if c==10 then r else aft r
theorem aft_le:∀ r:Bs,(aft r).length≤r.length
 | []=>Nat.le_refl _
 | c :: r=>by
  unfold aft;have:=aft_le r;split <;> simp <;> omega
theorem rest_true:∀ r:Bs,r.drop (skipL true r)=restL (aft r)
 | []=>rfl
 | c :: r=>by
  show (c :: r).drop (if c==10 then skipL false r+1 else skipL true r+1)=restL (if c==10 then r else aft r);split
  ·rfl
  ·rw [List.drop_succ_cons];exact rest_true r
theorem rest_cm{t:Bs}(h:[47,47].isPrefixOf t=true):restL t=restL (aft t)∧(aft t).length < t.length:=by
 match t,h with
 | [],h=>simp at h
 | [a],h=>simp [List.isPrefixOf] at h
 | a :: b :: u,h=>
  simp [List.isPrefixOf] at h;obtain ⟨rfl,rfl⟩:=h;refine ⟨?_,?_⟩
  ·show (47 :: 47 :: u).drop (skipL true (47 :: u)+1)=_;rw [List.drop_succ_cons];exact rest_true (47 :: u)
  ·have:=aft_le u;show (aft u).length < _;simp;omega
theorem rest_le(r:Bs):(restL r).length≤r.length:=by unfold restL;rw [List.length_drop];omega
def signsL:List Bs:=[[60,60,60],[60,60],[62,62],[46,46],[61],[59],[44],[40],[41],[123],[125],[43],[45],[38],[124],[94],[126]]
def tokS(c:UInt8)(r:Bs):Option (Nat×Nat):=(signsL.find? fun x=>x.isPrefixOf (c :: r)).map fun x=>(4,x.length)
theorem tok_sign{c:UInt8}{r:Bs}(hl:letB c=false)(hn:numB c=false):tokC c r=tokS c r:=by
 unfold tokC;rw [if_neg (by simp [hl]),if_neg (by simp [hn])];unfold tokS signsL;by_cases h60:c = 60
 ·subst h60
  match r with
  | []=>decide
  | [a]=>
   by_cases ha:a = 60
   ·subst ha;decide
   ·have ha':((60:UInt8)==a)=false:=beq_eq_false_iff_ne.2 (Ne.symm ha);simp [signs2,signs1,List.isPrefixOf,List.find?,ha,ha']
  | a :: b :: r=>
   by_cases ha:a = 60
   ·subst ha;by_cases hb:b = 60
    ·subst hb;simp [List.isPrefixOf,List.find?]
    ·have hb':((60:UInt8)==b)=false:=beq_eq_false_iff_ne.2 (Ne.symm hb);simp [signs2,List.isPrefixOf,List.find?,hb,hb']
   ·have ha':((60:UInt8)==a)=false:=beq_eq_false_iff_ne.2 (Ne.symm ha);simp [signs2,signs1,List.isPrefixOf,List.find?,ha,ha']
 ·have h60':((60:UInt8)==c)=false:=beq_eq_false_iff_ne.2 (Ne.symm h60);rw [if_neg (by simp [h60])];have g:∀ d:UInt8,d≠60→((c=d∧r.head?=some d)→((c :: r).take 2=[d,d])):=fun d _ ⟨h1,h2⟩=>by
   subst h1;cases r with
   | nil=>simp at h2
   | cons a r=>simp at h2;simp [h2]
  by_cases h62:c = 62
  ·subst h62
   match r with
   | []=>decide
   | a :: r=>
    by_cases ha:a = 62
    ·subst ha;simp [signs2,List.isPrefixOf,List.find?]
    ·have ha':((62:UInt8)==a)=false:=beq_eq_false_iff_ne.2 (Ne.symm ha);simp [signs2,signs1,List.isPrefixOf,List.find?,ha,ha']
  ·have h62':((62:UInt8)==c)=false:=beq_eq_false_iff_ne.2 (Ne.symm h62);by_cases h46:c = 46
   ·subst h46
    match r with
    | []=>decide
    | a :: r=>
     by_cases ha:a = 46
     ·subst ha;simp [signs2,List.isPrefixOf,List.find?]
     ·have ha':((46:UInt8)==a)=false:=beq_eq_false_iff_ne.2 (Ne.symm ha);simp [signs2,signs1,List.isPrefixOf,List.find?,ha,ha']
   ·have h46':((46:UInt8)==c)=false:=beq_eq_false_iff_ne.2 (Ne.symm h46);rw [if_neg (by cases r <;> simp [signs2,h60,h62,h46])];by_cases hs:c∈signs1
    ·rw [if_pos hs];simp only [signs1,List.mem_cons,List.not_mem_nil,or_false] at hs;rcases hs with rfl | rfl | rfl | rfl | rfl | rfl | rfl | rfl | rfl | rfl | rfl | rfl | rfl <;> simp [List.isPrefixOf,List.find?]
    ·rw [if_neg hs];have hs':∀ d∈signs1,(d==c)=false:=fun d hd=>beq_eq_false_iff_ne.2 fun e=>hs (e ▸ hd)
     simp only [signs1,List.mem_cons,List.not_mem_nil,or_false,forall_eq_or_imp,forall_eq] at hs';obtain ⟨s1,s2,s3,s4,s5,s6,s7,s8,s9,s10,s11,s12,s13⟩:=hs';simp [List.isPrefixOf,List.find?,h60',h62',h46',s1,s2,s3,s4,s5,s6,s7,s8,s9,s10,s11,s12,s13]
theorem find_first{α:Type}(p:α→Bool):∀ (q:List α) (x:α) (l r:List α),l=q ++ x :: r→(∀ y∈q,p y=false)→p x=true→l.find? p=some x
 | [],x,l,r,h,_,hx=>by subst h;simp [hx]
 | y :: q,x,l,r,h,hq,hx=>by
  subst h;rw [List.cons_append,List.find?_cons,hq y (List.mem_cons_self ..)];exact find_first p q x _ r rfl (fun z hz=>hq z (List.mem_cons_of_mem _ hz)) hx
theorem find_not{α:Type}(p:α→Bool)(l:List α)(h:∀ y∈l,p y=false):l.find? p=none:=by
 rw [List.find?_eq_none];intro y hy;rw [h y hy];decide
theorem sgn_take{c:UInt8}{r x:Bs}(hx:x.isPrefixOf (c :: r)=true):(c :: r).take x.length=x:=by
 obtain ⟨t,ht⟩:=List.isPrefixOf_iff_prefix.1 hx;rw [←ht];simp
def goI:Nat→Bs→Nat→List (Tk×Nat)
 | 0,_,_=>[]
 | f+1,bs,i=>
  match bs with
  | []=>[(⟨0,[],i⟩,0)]
  | c :: r=>
   match tokC c r with
   | none=>[(⟨0,[],i⟩,100)]
   | some (k,m)=>(⟨k,(c :: r).take m,i⟩,0) :: goI f (restL ((c :: r).drop m)) (i+m+skipL false ((c :: r).drop m))
theorem goI_nil(f i:Nat):goI (f+1) [] i=[(⟨0,[],i⟩,0)]:=rfl
theorem goI_none{f i:Nat}{c:UInt8}{r:Bs}(h:tokC c r=none):goI (f+1) (c :: r) i=[(⟨0,[],i⟩,100)]:=by
 show (match tokC c r with | none=>_ | some (k,m)=>_)=_;rw [h]
theorem goI_some{f i:Nat}{c:UInt8}{r:Bs}{k m:Nat}(h:tokC c r=some (k,m)):goI (f+1) (c :: r) i=(⟨k,(c :: r).take m,i⟩,0) :: goI f (restL ((c :: r).drop m)) (i+m+skipL false ((c :: r).drop m)):=by
 show (match tokC c r with | none=>_ | some (k,m)=>_)=_;rw [h]
theorem goL_none{f i n:Nat}{c:UInt8}{r:Bs}(h:tokC c r=none):goL (f+1) (c :: r) i n=⟨[],i,100⟩:=by
 show (match tokC c r with | none=>_ | some (k,m)=>_)=_;rw [h]
theorem goL_some{f i n:Nat}{c:UInt8}{r:Bs}{k m:Nat}(h:tokC c r=some (k,m)):goL (f+1) (c :: r) i n=if n = 4000 then ⟨[],i,150⟩ else Wd.cons ⟨k,(c :: r).take m,i⟩ (goL f (restL ((c :: r).drop m)) (i+m+skipL false ((c :: r).drop m)) (n+1)):=by
 show (match tokC c r with | none=>_ | some (k,m)=>_)=_;rw [h];rfl
theorem rest_len{c:UInt8}{r:Bs}{k m f:Nat}(h:tokC c r=some (k,m))(hf:(c :: r).length < f+1):(restL ((c :: r).drop m)).length < f:=by
 have hm:=tok_len h;have:=rest_le ((c :: r).drop m);rw [List.length_drop] at this;omega
theorem goI_all:∀ (f:Nat) (bs:Bs) (i n:Nat),bs.length < f→(∀ x∈goI f bs i,x.2 = 0)→n+(goI f bs i).length≤4000→goL f bs i n=⟨(goI f bs i).map (·.1),0,0⟩
 | 0,bs,i,n,hf,_,_=>by omega
 | f+1,[],i,n,hf,h,hn=>by
  have hn':n≠4000:=by rw [goI_nil] at hn;simp at hn;omega
  show (if n = 4000 then (⟨[],i,150⟩:Wd) else ⟨[⟨0,[],i⟩],0,0⟩)=_;rw [if_neg hn'];rfl
 | f+1,c :: r,i,n,hf,h,hn=>by
  rcases ht:tokC c r with _ | ⟨k,m⟩
  ·rw [goI_none ht] at h;have:=h _ (List.mem_cons_self ..);exact absurd this (by show ¬ (100:Nat) = 0;decide)
  ·rw [goI_some ht] at h hn ⊢;rw [List.length_cons] at hn;rw [goL_some ht,if_neg (by omega),goI_all f _ _ (n+1) (rest_len ht hf) (fun x hx=>h x (List.mem_cons_of_mem _ hx)) (by omega)];rfl
theorem cons_er{t:Tk}{w:Wd}(h:w.er≠0):Wd.cons t w=w:=by unfold Wd.cons;rw [if_neg h]
theorem goI_err:∀ (f:Nat) (bs:Bs) (i n:Nat) (q:List (Tk×Nat)) (x:Tk×Nat) (l:List (Tk×Nat)),bs.length < f→goI f bs i=q ++ x :: l→(∀ y∈q,y.2 = 0)→n+q.length≤4000 →
  (x.2≠0→goL f bs i n=⟨[],x.1.at_,x.2⟩)∧(x.2 = 0→n+q.length = 4000→goL f bs i n=⟨[],x.1.at_,150⟩)
 | 0,bs,i,n,q,x,l,hf,_,_,_=>by omega
 | f+1,[],i,n,q,x,l,hf,h,hq,hn=>by
  rw [goI_nil] at h;cases q with
  | cons y q=>simp at h
  | nil=>
   simp at h;obtain ⟨rfl,rfl⟩:=h;refine ⟨fun h=>absurd rfl h,fun _ hn'=>?_⟩;show (if n = 4000 then (⟨[],i,150⟩:Wd) else ⟨[⟨0,[],i⟩],0,0⟩)=_;rw [if_pos (by simpa using hn')]
 | f+1,c :: r,i,n,q,x,l,hf,h,hq,hn=>by
  rcases ht:tokC c r with _ | ⟨k,m⟩
  ·rw [goI_none ht] at h;cases q with
   | cons y q=>simp at h
   | nil=>
    simp at h;obtain ⟨rfl,rfl⟩:=h;exact ⟨fun _=>goL_none ht,fun h=>absurd h (by show ¬ (100:Nat) = 0;decide)⟩
  ·rw [goI_some ht] at h;cases q with
   | nil=>
    simp only [List.nil_append,List.cons.injEq] at h;obtain ⟨rfl,h2⟩:=h;refine ⟨fun h=>absurd rfl h,fun _ hn'=>?_⟩;rw [goL_some ht,if_pos (by simpa using hn')]
   | cons y q=>
    simp only [List.cons_append,List.cons.injEq] at h;rw [List.length_cons] at hn;have ih:=goI_err f _ _ (n+1) q x l (rest_len ht hf) h.2 (fun z hz=>hq z (List.mem_cons_of_mem _ hz)) (by omega);rw [goL_some ht,if_neg (by omega),List.length_cons];refine ⟨fun hx=>?_,fun hx hn'=>?_⟩
    ·rw [ih.1 hx];exact cons_er hx
    ·rw [ih.2 hx (by omega)];exact cons_er (by show ¬ (150:Nat) = 0;decide)
def itemsL(s:Bs):List (Tk×Nat):=goI (s.length+1) (restL s) (skipL false s)
theorem words_all{s:Bs}(hs:s.length≤20000)(h:∀ x∈itemsL s,x.2 = 0)(hn:(itemsL s).length≤4000):wordsL s=⟨(itemsL s).map (·.1),0,0⟩:=by
 unfold wordsL;rw [if_neg (by omega)];show goL (s.length+1) (restL s) (skipL false s) 0=_;unfold itemsL at h hn ⊢;exact goI_all _ _ _ 0 (by have:=rest_le s;omega) h (by omega)
theorem words_bad{s:Bs}(hs:s.length≤20000){q:List (Tk×Nat)}{x:Tk×Nat}(h:q ++ [x] <+: itemsL s)(hq:∀ y∈q,y.2 = 0)(hn:q.length≤4000) :
  (x.2≠0→wordsL s=⟨[],x.1.at_,x.2⟩)∧(x.2 = 0→q.length = 4000→wordsL s=⟨[],x.1.at_,150⟩):=by
 obtain ⟨l,hl⟩:=h;have e:wordsL s=goL (s.length+1) (restL s) (skipL false s) 0:=by unfold wordsL;rw [if_neg (by omega)];rfl
 have:=goI_err (s.length+1) (restL s) (skipL false s) 0 q x l (by have:=rest_le s;omega) (by show itemsL s=_;rw [←hl];simp) hq (by omega);rw [e];rw [Nat.zero_add] at this;exact this
def splitB(c:UInt8):Bs→List Bs
 | []=>[[]]
 | d :: r=>if d==c then [] :: splitB c r else match splitB c r with | []=>[[d]] | x :: l=>(d :: x) :: l
def signsT:Bs:=[60,60,60,32,60,60,32,62,62,32,46,46,32,61,32,59,32,44,32,40,32,41,32,123,32,125,32,43,32,45,32,38,32,124,32,94,32,126]
theorem split_signs:splitB 32 signsT=signsL:=by decide
theorem split_at(c:UInt8):∀ (r:Bs),(Lib.indexByte r c = -1∧splitB c r=[r])∨∃ i:Nat,Lib.indexByte r c=i∧i < r.length∧splitB c r=r.take i :: splitB c (r.drop (i+1))
 | []=>.inl ⟨rfl,rfl⟩
 | d :: r=>by
  have e:Lib.indexByte (d :: r) c=if d==c then 0 else if Lib.indexByte r c==-1 then -1 else Lib.indexByte r c+1:=rfl
  by_cases hd:(d==c)=true
  ·refine .inr ⟨0,by rw [e,if_pos hd];rfl,by simp,?_⟩
   conv=>lhs;unfold splitB
   rw [if_pos hd];rfl
  ·rcases split_at c r with ⟨h1,h2⟩ | ⟨i,h1,h2,h3⟩
   ·refine .inl ⟨by rw [e,if_neg hd,h1];rfl,?_⟩;unfold splitB;rw [if_neg hd,h2]
   ·refine .inr ⟨i+1,?_,by simp;omega,?_⟩
    ·rw [e,if_neg hd,h1,if_neg (by rw [beq_iff_eq];omega)];push_cast;rfl
    ·conv=>lhs;unfold splitB
     rw [if_neg hd,h3];rfl
end Go.Proofs.YtdhoemlomojfaaaGreatDoor.Lx
namespace Go.Proofs.YtdhoemlomojfaaaGreatDoor.Pa
open Lx
inductive Tr
 | mk (k at_:Nat) (s:Bs) (n:Nat) (ps:List Bs) (l:List Tr)
def Tr.place:Tr→Nat
 | .mk _ a _ _ _ _=>a
def Tr.put:Tr→Nat→Tr
 | .mk k _ s n ps l,a=>.mk k a s n ps l
inductive Out
 | ok (l:List Tr) (r:List Tk)
 | bad (at_ er:Nat)
inductive NT
 | lev (n:Nat)
 | more (n:Nat) (x:Tr)
 | args (l:List Tr)
 | fin (k a:Nat) (s:Bs) (ps:List Bs)
 | inner
 | inners (l:List Tr)
 | stmt
 | stmts (l:List Tr)
def isS(b:Bs)(t:Tk):Bool:=decide (2 < t.k) && t.s==b
def sOf:Nat→List Bs
 | 0=>[[124]]
 | 1=>[[94]]
 | 2=>[[38]]
 | 3=>[[60,60],[62,62],[60,60,60]]
 | _=>[[43],[45]]
def onS(n:Nat)(t:Tk):Bool:=t.k==4 && (sOf n).contains t.s
def hd(xs:List Tr):Tr:=xs.headD (.mk 0 0 [] 0 [] [])
abbrev OO:=Option Out
def bnd(o:OO)(f:List Tr→List Tk→OO):OO:=
 match o with
 | none=>none
 | some (.bad a e)=>some (.bad a e)
 | some (.ok l r)=>f l r
def wrong(l:List Tk)(e:Nat):OO:=some (.bad (match l with | []=>0 | t :: _=>t.at_) e)
def must(b:Bs)(l:List Tk)(f:List Tk→OO):OO:=
 match l with
 | []=>wrong l 100
 | t :: r=>if isS b t=true then f r else wrong l 100
def nameK(l:List Tk)(f:Bs→List Tk→OO):OO:=
 match l with
 | []=>wrong l 100
 | t :: r=>if t.k = 1 then f t.s r else wrong l 100
def namesK:List Bs→List Tk→(List Bs→List Tk→OO)→OO
 | _,[],_=>wrong [] 100
 | ps,[t],f=>if t.k = 1 then f (ps ++ [t.s]) [] else wrong [t] 100
 | ps,t :: u :: r,f=>if t.k = 1 then (if isS [44] u=true then namesK (ps ++ [t.s]) r f else f (ps ++ [t.s]) (u :: r)) else wrong (t :: u :: r) 100
def pF(num:Bs→Nat×Nat):Nat→NT→Nat→List Tk→OO
 | 0,_,_,_=>none
 | f+1,.lev n,d,l=>
  if n < 5 then bnd (pF num f (.lev (n+1)) d l) fun xs r=>pF num f (.more n (hd xs)) d r
  else match l with
   | []=>wrong [] 100
   | t :: r=>
    if 60 < d then wrong (t :: r) 150
    else if (isS [126] t || isS [45] t)=true then bnd (pF num f (.lev 5) (d+1) r) fun xs r'=>some (.ok [.mk 2 t.at_ t.s 0 [] xs] r')
    else if t.k = 2 then (if (num t.s).2 = 0 then some (.ok [.mk 0 t.at_ [] (num t.s).1 [] []] r) else wrong (t :: r) (if (num t.s).2 = 4 then 100 else 150))
    else if isS [40] t=true then bnd (pF num f (.lev 0) (d+1) r) fun xs r'=>must [41] r' fun r''=>some (.ok (xs.map (·.put t.at_)) r'')
    else nameK (t :: r) fun s r=>match r with
     | []=>some (.ok [.mk 1 t.at_ s 0 [] []] [])
     | u :: r'=>if isS [40] u=true then bnd (pF num f (.lev 0) (d+1) r') fun xs r''=>bnd (pF num f (.args xs) (d+1) r'') fun ys r3=>must [41] r3 fun r4=>some (.ok [.mk 5 t.at_ s 0 [] ys] r4)
      else some (.ok [.mk 1 t.at_ s 0 [] []] (u :: r'))
 | f+1,.more n x,d,l=>
  match l with
  | []=>some (.ok [x] [])
  | t :: r=>if onS n t=true then bnd (pF num f (.lev (n+1)) d r) fun ys r'=>pF num f (.more n (.mk (if n = 3 then 4 else 3) x.place t.s 0 [] (x :: ys))) d r' else some (.ok [x] (t :: r))
 | f+1,.args xs,d,l=>
  match l with
  | []=>some (.ok xs [])
  | t :: r=>if isS [44] t=true then bnd (pF num f (.lev 0) d r) fun ys r'=>pF num f (.args (xs ++ ys)) d r' else some (.ok xs (t :: r))
 | f+1,.fin k a s ps,d,l=>bnd (pF num f (.lev 0) d l) fun xs r=>must [59] r fun r'=>some (.ok [.mk k a s 0 ps xs] r')
 | f+1,.inner,d,l=>
  match l with
  | []=>wrong [] 100
  | t :: r=>
   if 60 < d then wrong (t :: r) 150
   else if isS [102,111,114] t=true then nameK r fun s r1=>must [105,110] r1 fun r2=>bnd (pF num f (.lev 0) d r2) fun xs r3=>must [46,46] r3 fun r4=>bnd (pF num f (.lev 0) d r4) fun ys r5=>must [123] r5 fun r6=>
    bnd (pF num f (.inners (xs ++ ys)) d r6) fun zs r7=>some (.ok [.mk 11 t.at_ s 0 [] zs] r7)
   else nameK (t :: r) fun s r1=>must [61] r1 fun r2=>pF num f (.fin 10 t.at_ s []) d r2
 | f+1,.inners zs,d,l=>
  match l with
  | []=>wrong [] 100
  | t :: r=>if isS [125] t=true then some (.ok zs r) else bnd (pF num f .inner (d+1) (t :: r)) fun xs r'=>pF num f (.inners (zs ++ xs)) d r'
 | f+1,.stmt,d,l=>
  match l with
  | []=>wrong [] 100
  | t :: r=>
   if isS [115,101,99,114,101,116] t=true then namesK [] r fun ps r1=>must [59] r1 fun r2=>some (.ok [.mk 6 t.at_ [] 0 ps []] r2)
   else if isS [112,117,98,108,105,99] t=true then namesK [] r fun ps r1=>must [59] r1 fun r2=>some (.ok [.mk 7 t.at_ [] 0 ps []] r2)
   else if isS [111,117,116] t=true then nameK r fun s r1=>must [61] r1 fun r2=>pF num f (.fin 8 t.at_ s []) d r2
   else if isS [115,104,111,119] t=true then nameK r fun s r1=>must [61] r1 fun r2=>pF num f (.fin 9 t.at_ s []) d r2
   else if isS [102,110] t=true then nameK r fun s r1=>must [40] r1 fun r2=>namesK [] r2 fun ps r3=>must [41] r3 fun r4=>must [61] r4 fun r5=>pF num f (.fin 12 t.at_ s ps) d r5
   else pF num f .inner 0 (t :: r)
 | f+1,.stmts xs,d,l=>
  match l with
  | []=>wrong [] 100
  | t :: r=>if t.k = 0 then some (.ok xs (t :: r)) else bnd (pF num f .stmt 0 (t :: r)) fun ys r'=>pF num f (.stmts (xs ++ ys)) d r'
mutual
def sk:Tr→Tr
 | .mk k _ s n ps l=>.mk k 0 s n ps (skL l)
def skL:List Tr→List Tr
 | []=>[]
 | x :: l=>sk x :: skL l
end
def Out.sk:Out→Out
 | .ok l r=>.ok (skL l) (r.map fun t=>⟨t.k,t.s,0⟩)
 | .bad _ e=>.bad 0 e
def Sl(l l':List Tk):Prop:=l.map (fun t=>(⟨t.k,t.s,0⟩:Tk))=l'.map fun t=>⟨t.k,t.s,0⟩
end Go.Proofs.YtdhoemlomojfaaaGreatDoor.Pa
namespace Go.Proofs.YtdhoemlomojfaaaGreatDoor.Args
open Go Go.RowKit
section
variable {P : Program} (w : World)
theorem run_append_where(base:Nat)(t ty e:TypeId)(i:TypeInfo)(z:Value)(size bytes:Nat)(ht:P.underlying t=some (.slice e))(hi:P.info? e=some i)(hz:i.zero=some z)
  (hsize:i.size=size) (hby:i.bytes=bytes) (hzs:z.cells.size=size) (hsz:0 < size)
  (v:Value) (n:Nat) (xs:List Value) (hown:w.ownsRow base e size v n xs)
  (a:Addr) (m c:Nat) (news:List Value) (hl:news.length=m * size) (hnews:∀ j u,news[j]?=some u→w.cell? (a.add j)=some u) (h1:∀ u∈news,u.oneCell'=true)
  (h63:n+m≤maxLen) (hbytes:(n+m) * bytes≤140737488355328) (hbase:base≤w.heap.size) (hm:0 < m) :
  ∃ v' w',(Builtin.append_ #[t,t] ty #[v,.slice (some a) m c]).run P w = .ok v' w'∧w'.ownsRow base e size v' (n+m) (xs ++ news)∧w.grownBy w' v.ownBlock ∧
   (v'.ownBlock=v.ownBlock∨v'.ownBlock=some w.heap.size):=by
 obtain ⟨v',w',hr,h2,h3,_⟩:=run_append_own (P:=P) w base t ty e i z size bytes ht hi hz hsize hby hzs hsz v n xs hown a m c news hl hnews h1 h63 hbytes hbase;refine ⟨v',w',hr,h2,h3,?_⟩;subst hsize;subst hby;have hsmall:n+m≤9223372036854775807:=by simp only [maxLen] at h63;omega
 rcases hown.2 with ⟨rfl,rfl⟩ | ⟨g,cap,cur,rfl,hbg,hg,hnc,hcm,hcs,htake⟩
 ·have hr2:=run_append_nil (P:=P) w t ty e i z ht hi hz a m c news hl hnews (by omega) (by omega) (by have hb:=hbytes;simp only [Nat.zero_add] at hb;omega);rw [hr] at hr2;injection hr2 with e1 _
  rw [e1];exact .inr rfl
 ·by_cases hroom:n+m≤cap
  ·have hfit:n * i.size+news.length≤cur.size:=by rw [hl,hcs,←Nat.add_mul];exact Nat.mul_le_mul_right _ hroom
   have hr2:=run_append_room (P:=P) w t ty e i ht hi g n cap cur hg a m c news hl hnews h1 hroom hfit;rw [hr] at hr2;injection hr2 with e1 _
   rw [e1];exact .inl rfl
  ·have holds:∀ j u,xs[j]?=some u→w.cell? ((⟨g,0,none⟩:Addr).add j)=some u:=hown.cells (g:=g) rfl;have hr2:=run_append_grow (P:=P) w t ty e i z ht hi hz ⟨g,0,none⟩ n cap xs hown.1 holds a m c news hl hnews (by omega) (by omega) (growslice_fits (by omega) hbytes);rw [hr] at hr2;injection hr2 with e1 _
   rw [e1];exact .inr rfl
theorem wpListIn_where{F:Fence}{nn:Nat}{ops:Array Oper}{rest:List Oper}{o:Oper}{b:Act}{Q:Exit→Act→World→Prop}
  (hgd:o.guard=none) (s x:Operand) (t:TypeId) (hop:o.op=Op.call { callee:=Callee.builtin Builtin.append,args:=#[s,x],argTypes:=#[t,t] })
  (base:Nat) (e:TypeId) (i:TypeInfo) (z:Value) (size bytes:Nat) (ht:P.underlying t=some (.slice e)) (hi:P.info? e=some i) (hz:i.zero=some z)
  (hsize:i.size=size) (hby:i.bytes=bytes) (hzs:z.cells.size=size) (hsz:0 < size)
  (v:Value) (n:Nat) (xs:List Value) (hs:b.eval s=v) (hown:w.ownsRow base e size v n xs)
  (a:Addr) (m c:Nat) (news:List Value) (hx:b.eval x = .slice (some a) m c) (hl:news.length=m * size) (hnews:∀ j u,news[j]?=some u→w.cell? (a.add j)=some u) (h1:∀ u∈news,u.oneCell'=true)
  (h63:n+m≤maxLen) (hbytes:(n+m) * bytes≤140737488355328) (hbase:base≤w.heap.size) (hm:0 < m)
  (hK:∀ g c' w',w'.ownsRow base e size (.slice (some ⟨g,0,none⟩) (n+m) c') (n+m) (xs ++ news)→w.grownBy w' v.ownBlock→(some g=v.ownBlock∨g=w.heap.size)→wpListIn F nn P ops Q rest (b.put o.dst (.slice (some ⟨g,0,none⟩) (n+m) c')) w') :
  wpListIn F nn P ops Q (o :: rest) b w:=by
 refine wpListIn_plain hgd fun K hK'=>?_
 obtain ⟨v',w',hrun,r1,r2,r3⟩:=run_append_where (P:=P) w base t o.type e i z size bytes ht hi hz hsize hby hzs hsz v n xs hown a m c news hl hnews h1 h63 hbytes hbase hm;obtain ⟨g,c',rfl⟩:∃ g c',v' = .slice (some ⟨g,0,none⟩) (n+m) c':=by
  rcases r1.2 with ⟨_,h0⟩ | ⟨g,cap,cur,e1,_⟩
  ·omega
  ·exact ⟨g,cap,e1⟩
 unfold Oper.wpIn;refine ⟨?_,?_⟩
 ·simp [Oper.about,hop,resolve,Target.leads,Sem.run_pure]
 ·rw [Oper.semAt_plain F _ _ (by rw [hop];intro c hc';cases hc')];simp [execOp,hop,resolve,invoke,builtin,hs,hx,hrun,Result.andThen];refine hK' _ _ (hK g c' w' r1 r2 ?_);rcases r3 with h | h
  ·exact .inl h
  ·exact .inr (by simpa [Value.ownBlock] using h)
end
section
variable {P : Program} {w : World}
structure AppE(base:Nat)(e:TypeId)(size:Nat)(w:World)(v:Value)(n m:Nat)(xs:List Value)(g c':Nat)(w':World):Prop where
 own:w'.ownsRow base e size (.slice (some ⟨g,0,none⟩) (n+m) c') (n+m) xs
 grown:w.grownBy w' v.ownBlock
 at_:some g=v.ownBlock∨g=w.heap.size
theorem wpList_where{ops:Array Oper}{rest:List Oper}{o:Oper}{a:Act}{Q:Exit→Act→World→Prop}(hgd:o.guard=none)(s x:Operand)(t:TypeId)
  (ho:o.op = .call { callee:=.builtin .append,args:=#[s,x],argTypes:=#[t,t] })
  (base:Nat) (e:TypeId) (i:TypeInfo) (z:Value) (size bytes:Nat) (ht:P.underlying t=some (.slice e)) (hi:P.info? e=some i) (hz:i.zero=some z)
  (hsize:i.size=size) (hby:i.bytes=bytes) (hzs:z.cells.size=size) (hsz:0 < size) (v:Value) (n:Nat) (xs:List Value) (hs:a.eval s=v) (hown:w.ownsRow base e size v n xs)
  (A:Addr) (m c:Nat) (news:List Value) (hx:a.eval x = .slice (some A) m c) (hl:news.length=m * size) (hL:Lies w (some A) news) (h1:∀ u∈news,u.oneCell'=true) (h63:n+m≤maxLen) (hbytes:(n+m) * bytes≤140737488355328) (hbase:base≤w.heap.size) (hm:0 < m)
  (h:∀ g c' w',AppE base e size w v n m (xs ++ news) g c' w'→wpList P ops Q rest (a.put o.dst (.slice (some ⟨g,0,none⟩) (n+m) c')) w'):wpList P ops Q (o :: rest) a w:=
 wpList_plain hgd fun _ hK=>by
  obtain ⟨v',w',hrun,h2,h3,h4⟩:=run_append_where (P:=P) w base t o.type e i z size bytes ht hi hz hsize hby hzs hsz v n xs hown A m c news hl (fun j u hj=>by
   obtain ⟨a,ha,hc⟩:=hL j u hj;cases ha;exact hc) h1 h63 hbytes hbase hm
  obtain ⟨g,c',rfl⟩:∃ g c',v' = .slice (some ⟨g,0,none⟩) (n+m) c':=by
   rcases h2.2 with ⟨_,h0⟩ | ⟨g,cap,cur,e1,_⟩
   ·omega
   ·exact ⟨g,cap,e1⟩
  unfold Oper.wp execOp;simp only [ho,resolve,invoke,builtin,Sem.run_bind,Sem.run_pure,Result.andThen_ok,List.map_toArray,List.map_cons,List.map_nil,hs,hx,hrun];refine hK _ _ (h g c' w' ⟨h2,h3,?_⟩);rcases h4 with h4 | h4
  ·exact .inl h4
  ·exact .inr (by simpa [Value.ownBlock] using h4)
theorem own_full(w:World){lo:Nat}(hb:lo≤w.heap.size)(e:TypeId)(size n:Nat)(xs:List Value)(hx:xs.length=n * size)(hm:n≤maxLen):(w.alloc (.cells xs.toArray e)).ownsRow lo e size (.slice (some ⟨w.heap.size,0,none⟩) n n) n xs:=
 ⟨hx,.inr ⟨w.heap.size,n,xs.toArray,rfl,hb,heap_alloc_new w _,Nat.le_refl _,hm,by simpa using hx,by simp [←hx]⟩⟩
theorem lies_full(w:World)(t:TypeId)(l:List Value):Lies (w.alloc (.cells l.toArray t)) (some ⟨w.heap.size,0,none⟩) l:=fun j u hj=>⟨_,rfl,by
 rw [add_plain,Nat.zero_add,World.cell?_alloc_at _ _ _ _ rfl];simpa using hj⟩
end
end Go.Proofs.YtdhoemlomojfaaaGreatDoor.Args
