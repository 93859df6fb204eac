/- DERIVED. PaRd, PaRe, PaSn, PaSo, PaNa. By an AI agent. -/
import Derived.Test.YtdhoemlomojfaaaGreatDoorW11
import Derived.Test.YtdhoemlomojfaaaGreatDoorW01
import Derived.Test.YtdhoemlomojfaaaGreatDoorRows
import Derived.WalkKit
import Derived.RegionTactic
import Derived.ProofKit
import Derived.Deep.QuietTactic
import Derived.BigQuiet
import Derived.Outline
import Derived.Lib.Hide
import Derived.WalkLawsBesides
import Derived.WalkSpells
import Derived.Lib.Strings
set_option maxRecDepth 100000
set_option linter.unusedVariables false
set_option linter.unusedSimpArgs false
namespace Go.Proofs.YtdhoemlomojfaaaGreatDoor.Pa
open Lx
section
variable {num : Bs → Nat × Nat}
def Ev(K:Nat→OO)(o:Out):Prop:=∃ g,∀ f,g≤f→K f=some o
def Rd(num:Bs→Nat×Nat)(nt:NT)(d:Nat)(l:List Tk)(o:Out):Prop:=Ev (fun f=>pF num f nt d l) o
theorem Rd.at_{nt:NT}{d:Nat}{l:List Tk}{o:Out}(h:Rd num nt d l o):∃ f,pF num f nt d l=some o:=by
 obtain ⟨g,hg⟩:=h;exact ⟨g,hg g (Nat.le_refl _)⟩
theorem Rd.one{nt:NT}{d:Nat}{l:List Tk}{o o':Out}(h:Rd num nt d l o)(h':Rd num nt d l o'):o=o':=by
 obtain ⟨f,hf⟩:=h.at_;obtain ⟨g,hg⟩:=h'.at_;exact pF_one hf hg
theorem ev_now(o:Out):Ev (fun _=>some o) o:=⟨0,fun _ _=>rfl⟩
theorem ev_bnd{A:Nat→OO}{K:Nat→List Tr→List Tk→OO}{xs:List Tr}{r:List Tk}{o:Out}(h:Ev A (.ok xs r))(h2:Ev (fun f=>K f xs r) o):Ev (fun f=>bnd (A f) (K f)) o:=by
 obtain ⟨a,ha⟩:=h;obtain ⟨b,hb⟩:=h2;refine ⟨max a b,fun f hf=>?_⟩;show bnd (A f) (K f)=_;rw [ha f (Nat.le_trans (Nat.le_max_left _ _) hf)];exact hb f (Nat.le_trans (Nat.le_max_right _ _) hf)
theorem ev_bad{A:Nat→OO}{K:Nat→List Tr→List Tk→OO}{a e:Nat}(h:Ev A (.bad a e)):Ev (fun f=>bnd (A f) (K f)) (.bad a e):=by
 obtain ⟨g,hg⟩:=h;refine ⟨g,fun f hf=>?_⟩;show bnd (A f) (K f)=_;rw [hg f hf];rfl
theorem rd_eq{nt:NT}{d:Nat}{l:List Tk}{o:Out}{K:Nat→OO}(h:Ev K o)(he:∀ f,pF num (f+1) nt d l=K f):Rd num nt d l o:=by
 obtain ⟨g,hg⟩:=h;refine ⟨g+1,fun f hf=>?_⟩;obtain ⟨k,rfl⟩:∃ k,f=k+1:=⟨f - 1,by omega⟩;show pF num (k+1) nt d l=_;rw [he];exact hg k (by omega)
theorem r_lev{n d:Nat}{l r:List Tk}{xs:List Tr}{o:Out}(hn:n < 5)(h:Rd num (.lev (n+1)) d l (.ok xs r))(h2:Rd num (.more n (hd xs)) d r o):Rd num (.lev n) d l o:=
 rd_eq (ev_bnd (K:=fun f xs r=>pF num f (.more n (hd xs)) d r) h h2) fun f=>by
  conv=>lhs;unfold pF
  rw [if_pos hn]
theorem r_lev_bad{n d a e:Nat}{l:List Tk}(hn:n < 5)(h:Rd num (.lev (n+1)) d l (.bad a e)):Rd num (.lev n) d l (.bad a e):=
 rd_eq (ev_bad (K:=fun f xs r=>pF num f (.more n (hd xs)) d r) h) fun f=>by
  conv=>lhs;unfold pF
  rw [if_pos hn]
theorem r_stop{n d:Nat}{l:List Tk}{x:Tr}(h:∀ t r,l=t :: r→onS n t=false):Rd num (.more n x) d l (.ok [x] l):=
 rd_eq (ev_now _) fun f=>by
  cases l with
  | nil=>rfl
  | cons t r=>
   conv=>lhs;unfold pF
   simp only;rw [if_neg (by rw [h t r rfl];decide)]
def bin(n:Nat)(x:Tr)(s:Bs)(ys:List Tr):Tr:=.mk (if n = 3 then 4 else 3) x.place s 0 [] (x :: ys)
theorem r_go{n d:Nat}{t:Tk}{r r':List Tk}{x:Tr}{ys:List Tr}{o:Out}(ht:onS n t=true)(h:Rd num (.lev (n+1)) d r (.ok ys r'))(h2:Rd num (.more n (bin n x t.s ys)) d r' o):Rd num (.more n x) d (t :: r) o:=
 rd_eq (ev_bnd (K:=fun f ys r'=>pF num f (.more n (bin n x t.s ys)) d r') h h2) fun f=>by
  conv=>lhs;unfold pF
  simp only;rw [if_pos ht];rfl
theorem r_go_bad{n d a e:Nat}{t:Tk}{r:List Tk}{x:Tr}(ht:onS n t=true)(h:Rd num (.lev (n+1)) d r (.bad a e)):Rd num (.more n x) d (t :: r) (.bad a e):=
 rd_eq (ev_bad (K:=fun f ys r'=>pF num f (.more n (bin n x t.s ys)) d r') h) fun f=>by
  conv=>lhs;unfold pF
  simp only;rw [if_pos ht];rfl
def Stp(n:Nat)(l:List Tk):Prop:=∀ t r,l=t :: r→∀ m,n≤m→m < 5→onS m t=false
theorem lev_stp:∀ (f:Nat),(∀ (n d:Nat) (l r:List Tk) (xs:List Tr),pF num f (.lev n) d l=some (.ok xs r)→Stp n r) ∧
  (∀ (n:Nat) (x:Tr) (d:Nat) (l r:List Tk) (xs:List Tr),Stp (n+1) l→pF num f (.more n x) d l=some (.ok xs r)→Stp n r):=by
 intro f
 induction f with
 | zero=>exact ⟨fun n d l r xs h=>(by cases h),fun n x d l r xs _ h=>(by cases h)⟩
 | succ f ih=>
  refine ⟨fun n d l r xs h=>?_,fun n x d l r xs hs h=>?_⟩
  ·by_cases hn:n < 5
   ·unfold pF at h;rw [if_pos hn] at h;rcases h1:pF num f (.lev (n+1)) d l with _ | ⟨ys,r1⟩ | ⟨a,e⟩
    ·rw [h1] at h;cases h
    ·rw [h1] at h;exact ih.2 n _ d r1 r xs (ih.1 _ _ _ _ _ h1) h
    ·rw [h1] at h;cases h
   ·intro t r' _ m h1 h2;omega
  ·cases l with
   | nil=>
    unfold pF at h;simp only [Option.some.injEq,Out.ok.injEq] at h;obtain ⟨_,rfl⟩:=h;intro t r' h;cases h
   | cons t r0=>
    unfold pF at h;simp only at h;by_cases ht:onS n t=true
    ·rw [if_pos ht] at h;rcases h1:pF num f (.lev (n+1)) d r0 with _ | ⟨ys,r1⟩ | ⟨a,e⟩
     ·rw [h1] at h;cases h
     ·rw [h1] at h;exact ih.2 n _ d r1 r xs (ih.1 _ _ _ _ _ h1) h
     ·rw [h1] at h;cases h
    ·rw [if_neg ht] at h;simp only [Option.some.injEq,Out.ok.injEq] at h;obtain ⟨_,rfl⟩:=h;intro t' r' e m h1 h2;cases e;by_cases hm:m=n
     ·subst hm;simpa using ht
     ·exact hs t r0 rfl m (by omega) h2
theorem Rd.stp{n d:Nat}{l r:List Tk}{xs:List Tr}(h:Rd num (.lev n) d l (.ok xs r)):Stp n r:=by
 obtain ⟨f,hf⟩:=h.at_;exact (lev_stp f).1 _ _ _ _ _ hf
def Ch(num:Bs→Nat×Nat)(j d:Nat):Nat→Tr→List Tk→Out→Prop
 | 0,x,r,o=>o = .ok [x] r
 | m+1,x,r,o=>(∃ y r',Rd num (.more (j+m) x) d r (.ok [y] r')∧Ch num j d m y r' o)∨(∃ a e,Rd num (.more (j+m) x) d r (.bad a e)∧o = .bad a e)
theorem ch_lev{j d:Nat}{l:List Tk}{o:Out}:∀ (m:Nat) (x:Tr) (r:List Tk),j+m≤5→Rd num (.lev (j+m)) d l (.ok [x] r)→Ch num j d m x r o→Rd num (.lev j) d l o
 | 0,x,r,_,h,hc=>by
  have:o = .ok [x] r:=hc;subst this;exact h
 | m+1,x,r,hm,h,hc=>by
  rcases hc with ⟨y,r',h1,h2⟩ | ⟨a,e,h1,rfl⟩
  ·exact ch_lev m y r' (by omega) (r_lev (by omega) h h1) h2
  ·have h3:Rd num (.lev (j+m)) d l (.bad a e):=r_lev (by omega) h h1;clear h h1
   induction m with
   | zero=>exact h3
   | succ m ih=>exact ih (by omega) (r_lev_bad (by omega) h3)
theorem more_none{n d:Nat}{x:Tr}{r:List Tk}{o:Out}(h:∀ t r',r=t :: r'→onS n t=false)(hr:Rd num (.more n x) d r o):o = .ok [x] r:=hr.one (r_stop h)
theorem ch_down{j d:Nat}{o:Out}{x:Tr}{r:List Tk}:∀ (m n:Nat),n≤m→j+m≤5→(∀ t r',r=t :: r'→∀ i,j+n≤i→i < 5→onS i t=false)→(Ch num j d m x r o↔Ch num j d n x r o)
 | 0,n,hn,_,_=>by
  obtain rfl:n = 0:=by omega
  exact Iff.rfl
 | m+1,n,hn,hm,h=>by
  by_cases e:n=m+1
  ·subst e;exact Iff.rfl
  ·refine Iff.trans ?_ (ch_down m n (by omega) (by omega) h);have hs:∀ t r',r=t :: r'→onS (j+m) t=false:=fun t r' e=>h t r' e _ (by omega) (by omega)
   constructor
   ·rintro (⟨y,r',h1,h2⟩ | ⟨a,e,h1,_⟩)
    ·have:=more_none hs h1;simp only [Out.ok.injEq,List.cons.injEq,and_true] at this;obtain ⟨rfl,rfl⟩:=this;exact h2
    ·have:=more_none hs h1;cases this
   ·intro h2;exact .inl ⟨x,r,r_stop hs,h2⟩
theorem ch_sign{j d m q:Nat}{o:Out}{x:Tr}{t:Tk}{r r':List Tk}{ys:List Tr}(hm:j+m = 5)(hq:j≤q)(hq5:q < 5)(ht:∀ i,i < 5→onS i t=decide (i=q))(h1:Rd num (.lev (q+1)) d r (.ok ys r'))
  (h2:Ch num j d m (bin q x t.s ys) r' o):Ch num j d m x (t :: r) o:=by
 obtain ⟨k,rfl⟩:∃ k,q=j+k:=⟨q - j,by omega⟩;refine (ch_down m (k+1) (by omega) (by omega) fun t' r0 e i hi h5=>?_).2 ?_
 ·cases e;rw [ht i h5];simp;omega
 ·have hstp:=h1.stp;have h3:=(ch_down m (k+1) (by omega) (by omega) fun t' r0 e i hi h5=>hstp t' r0 e i (by omega) h5).1 h2;have hon:onS (j+k) t=true:=by rw [ht _ hq5];simp
  rcases h3 with ⟨y,r2,h4,h5⟩ | ⟨a,e,h4,rfl⟩
  ·exact .inl ⟨y,r2,r_go hon h1 h4,h5⟩
  ·exact .inr ⟨a,e,r_go hon h1 h4,rfl⟩
theorem ch_sign_bad{j d m q a e:Nat}{x:Tr}{t:Tk}{r:List Tk}(hm:j+m = 5)(hq:j≤q)(hq5:q < 5)(ht:∀ i,i < 5→onS i t=decide (i=q))(h1:Rd num (.lev (q+1)) d r (.bad a e)) :
  Ch num j d m x (t :: r) (.bad a e):=by
 obtain ⟨k,rfl⟩:∃ k,q=j+k:=⟨q - j,by omega⟩;refine (ch_down m (k+1) (by omega) (by omega) fun t' r0 e i hi h5=>?_).2 ?_
 ·cases e;rw [ht i h5];simp;omega
 ·exact .inr ⟨a,e,r_go_bad (by rw [ht _ hq5];simp) h1,rfl⟩
theorem ch_end{j d m:Nat}{x:Tr}{r:List Tk}(hm:j+m≤5)(h:∀ t r',r=t :: r'→∀ i,j≤i→i < 5→onS i t=false):Ch num j d m x r (.ok [x] r):=
 (ch_down m 0 (by omega) hm (by simpa using h)).2 rfl
end
section
variable {num : Bs → Nat × Nat}
theorem must_y{b:Bs}{t:Tk}{r:List Tk}(h:isS b t=true)(f:List Tk→OO):must b (t :: r) f=f r:=if_pos h
theorem must_n{b:Bs}{t:Tk}{r:List Tk}(h:isS b t=false)(f:List Tk→OO):must b (t :: r) f=some (.bad t.at_ 100):=if_neg (by rw [h];decide)
theorem name_y{t:Tk}{r:List Tk}(h:t.k = 1)(f:Bs→List Tk→OO):nameK (t :: r) f=f t.s r:=if_pos h
theorem name_n{t:Tk}{r:List Tk}(h:t.k≠1)(f:Bs→List Tk→OO):nameK (t :: r) f=some (.bad t.at_ 100):=if_neg h
theorem isS_low{t:Tk}(h:t.k≤2)(b:Bs):isS b t=false:=by unfold isS;simp;omega
theorem ev_eq{K K':Nat→OO}{o:Out}(h:Ev K o)(he:∀ f,K' f=K f):Ev K' o:=by
 obtain ⟨g,hg⟩:=h;exact ⟨g,fun f hf=>(he f).trans (hg f hf)⟩
theorem l5(f d:Nat)(t:Tk)(r:List Tk):pF num (f+1) (.lev 5) d (t :: r)=if 60 < d then wrong (t :: r) 150
    else if (isS [126] t || isS [45] t)=true then bnd (pF num f (.lev 5) (d+1) r) fun xs r'=>some (.ok [.mk 2 t.at_ t.s 0 [] xs] r')
    else if t.k = 2 then (if (num t.s).2 = 0 then some (.ok [.mk 0 t.at_ [] (num t.s).1 [] []] r) else wrong (t :: r) (if (num t.s).2 = 4 then 100 else 150))
    else if isS [40] t=true then bnd (pF num f (.lev 0) (d+1) r) fun xs r'=>must [41] r' fun r''=>some (.ok (xs.map (·.put t.at_)) r'')
    else nameK (t :: r) fun s r=>match r with
     | []=>some (.ok [.mk 1 t.at_ s 0 [] []] [])
     | u :: r'=>if isS [40] u=true then bnd (pF num f (.lev 0) (d+1) r') fun xs r''=>bnd (pF num f (.args xs) (d+1) r'') fun ys r3=>must [41] r3 fun r4=>some (.ok [.mk 5 t.at_ s 0 [] ys] r4)
      else some (.ok [.mk 1 t.at_ s 0 [] []] (u :: r')):=rfl
theorem r_deep5{d:Nat}{t:Tk}{r:List Tk}(hd:60 < d):Rd num (.lev 5) d (t :: r) (.bad t.at_ 150):=rd_eq (ev_now _) fun f=>by rw [l5,if_pos hd];rfl
theorem lev_bad{n m d a e:Nat}{l:List Tk}(h:Rd num (.lev (n+m)) d l (.bad a e))(hn:n+m≤5):Rd num (.lev n) d l (.bad a e):=by
 induction m with
 | zero=>exact h
 | succ m ih=>exact ih (r_lev_bad (by omega) h) (by omega)
theorem r_deep0{d:Nat}{t:Tk}{r:List Tk}(hd:60 < d):Rd num (.lev 0) d (t :: r) (.bad t.at_ 150):=lev_bad (m:=5) (r_deep5 hd) (by omega)
theorem r_un{d:Nat}{t:Tk}{r r':List Tk}{xs:List Tr}(hd:d≤60)(ht:(isS [126] t || isS [45] t)=true)(h:Rd num (.lev 5) (d+1) r (.ok xs r')):Rd num (.lev 5) d (t :: r) (.ok [.mk 2 t.at_ t.s 0 [] xs] r'):=
 rd_eq (ev_bnd (K:=fun _ xs r'=>some (.ok [.mk 2 t.at_ t.s 0 [] xs] r')) h (ev_now _)) fun f=>by rw [l5,if_neg (by omega),if_pos ht]
theorem r_un_bad{d a e:Nat}{t:Tk}{r:List Tk}(hd:d≤60)(ht:(isS [126] t || isS [45] t)=true)(h:Rd num (.lev 5) (d+1) r (.bad a e)):Rd num (.lev 5) d (t :: r) (.bad a e):=
 rd_eq (ev_bad (K:=fun _ xs r'=>some (.ok [.mk 2 t.at_ t.s 0 [] xs] r')) h) fun f=>by rw [l5,if_neg (by omega),if_pos ht]
theorem r_num{d:Nat}{t:Tk}{r:List Tk}(hd:d≤60)(ht:t.k = 2)(h:(num t.s).2 = 0):Rd num (.lev 5) d (t :: r) (.ok [.mk 0 t.at_ [] (num t.s).1 [] []] r):=
 rd_eq (ev_now _) fun f=>by rw [l5,if_neg (by omega),if_neg (by rw [isS_low (by omega),isS_low (by omega)];decide),if_pos ht,if_pos h]
theorem r_num_bad{d:Nat}{t:Tk}{r:List Tk}(hd:d≤60)(ht:t.k = 2)(h:(num t.s).2≠0):Rd num (.lev 5) d (t :: r) (.bad t.at_ (if (num t.s).2 = 4 then 100 else 150)):=
 rd_eq (ev_now _) fun f=>by rw [l5,if_neg (by omega),if_neg (by rw [isS_low (by omega),isS_low (by omega)];decide),if_pos ht,if_neg h];rfl
theorem par_k{t:Tk}(ht:isS [40] t=true):(isS [126] t || isS [45] t)=false∧t.k≠2:=by
 unfold isS at ht ⊢;simp only [Bool.and_eq_true,decide_eq_true_eq] at ht;have:=eq_of_beq ht.2;rw [this];exact ⟨by simp,by omega⟩
theorem r_par{d:Nat}{t u:Tk}{r r':List Tk}{xs:List Tr}(hd:d≤60)(ht:isS [40] t=true)(h:Rd num (.lev 0) (d+1) r (.ok xs (u :: r')))(hu:isS [41] u=true):Rd num (.lev 5) d (t :: r) (.ok (xs.map (·.put t.at_)) r'):=
 rd_eq (ev_bnd (K:=fun _ xs r'=>must [41] r' fun r''=>some (.ok (xs.map (·.put t.at_)) r'')) h (ev_eq (ev_now _) fun f=>must_y hu _)) fun f=>by
  rw [l5,if_neg (by omega),if_neg (by rw [(par_k ht).1];decide),if_neg (par_k ht).2,if_pos ht]
theorem r_par_end{d:Nat}{t u:Tk}{r r':List Tk}{xs:List Tr}(hd:d≤60)(ht:isS [40] t=true)(h:Rd num (.lev 0) (d+1) r (.ok xs (u :: r')))(hu:isS [41] u=false):Rd num (.lev 5) d (t :: r) (.bad u.at_ 100):=
 rd_eq (ev_bnd (K:=fun _ xs r'=>must [41] r' fun r''=>some (.ok (xs.map (·.put t.at_)) r'')) h (ev_eq (ev_now _) fun f=>must_n hu _)) fun f=>by
  rw [l5,if_neg (by omega),if_neg (by rw [(par_k ht).1];decide),if_neg (par_k ht).2,if_pos ht]
theorem r_par_bad{d a e:Nat}{t:Tk}{r:List Tk}(hd:d≤60)(ht:isS [40] t=true)(h:Rd num (.lev 0) (d+1) r (.bad a e)):Rd num (.lev 5) d (t :: r) (.bad a e):=
 rd_eq (ev_bad (K:=fun _ xs r'=>must [41] r' fun r''=>some (.ok (xs.map (·.put t.at_)) r'')) h) fun f=>by
  rw [l5,if_neg (by omega),if_neg (by rw [(par_k ht).1];decide),if_neg (par_k ht).2,if_pos ht]
theorem r_nothing{d:Nat}{t:Tk}{r:List Tk}(hd:d≤60)(h1:(isS [126] t || isS [45] t)=false)(h2:t.k≠2)(h3:isS [40] t=false)(h4:t.k≠1):Rd num (.lev 5) d (t :: r) (.bad t.at_ 100):=
 rd_eq (ev_now _) fun f=>by rw [l5,if_neg (by omega),if_neg (by rw [h1];decide),if_neg h2,if_neg (by rw [h3];decide),name_n h4]
theorem nm5(f d:Nat)(t:Tk)(r:List Tk)(hd:d≤60)(ht:t.k = 1):pF num (f+1) (.lev 5) d (t :: r)=match r with
     | []=>some (.ok [.mk 1 t.at_ t.s 0 [] []] [])
     | u :: r'=>if isS [40] u=true then bnd (pF num f (.lev 0) (d+1) r') fun xs r''=>bnd (pF num f (.args xs) (d+1) r'') fun ys r3=>must [41] r3 fun r4=>some (.ok [.mk 5 t.at_ t.s 0 [] ys] r4)
      else some (.ok [.mk 1 t.at_ t.s 0 [] []] (u :: r')):=by
 rw [l5,if_neg (by omega),if_neg (by rw [isS_low (by omega),isS_low (by omega)];decide),if_neg (by omega),if_neg (by rw [isS_low (by omega)];decide),name_y ht]
theorem r_name{d:Nat}{t u:Tk}{r:List Tk}(hd:d≤60)(ht:t.k = 1)(hu:isS [40] u=false):Rd num (.lev 5) d (t :: u :: r) (.ok [.mk 1 t.at_ t.s 0 [] []] (u :: r)):=
 rd_eq (ev_now _) fun f=>by rw [nm5 _ _ _ _ hd ht];exact if_neg (by rw [hu];decide)
def ArK(num:Bs→Nat×Nat)(f d a:Nat)(s:Bs)(r:List Tk):OO:=bnd (pF num f (.lev 0) (d+1) r) fun xs r''=>bnd (pF num f (.args xs) (d+1) r'') fun ys r3=>must [41] r3 fun r4=>some (.ok [.mk 5 a s 0 [] ys] r4)
theorem r_call{d:Nat}{t u:Tk}{r:List Tk}{o:Out}(hd:d≤60)(ht:t.k = 1)(hu:isS [40] u=true)(h:Ev (fun f=>ArK num f d t.at_ t.s r) o):Rd num (.lev 5) d (t :: u :: r) o:=
 rd_eq h fun f=>by rw [nm5 _ _ _ _ hd ht];exact if_pos hu
theorem r_args_stop{d:Nat}{t:Tk}{r:List Tk}{xs:List Tr}(ht:isS [44] t=false):Rd num (.args xs) d (t :: r) (.ok xs (t :: r)):=
 rd_eq (ev_now _) fun f=>by
  conv=>lhs;unfold pF
  simp only;rw [if_neg (by rw [ht];decide)]
theorem r_args{d:Nat}{t:Tk}{r r':List Tk}{xs ys:List Tr}{o:Out}(ht:isS [44] t=true)(h:Rd num (.lev 0) d r (.ok ys r'))(h2:Rd num (.args (xs ++ ys)) d r' o):Rd num (.args xs) d (t :: r) o:=
 rd_eq (ev_bnd (K:=fun f ys r'=>pF num f (.args (xs ++ ys)) d r') h h2) fun f=>by
  conv=>lhs;unfold pF
  simp only;rw [if_pos ht]
theorem r_args_bad{d a e:Nat}{t:Tk}{r:List Tk}{xs:List Tr}(ht:isS [44] t=true)(h:Rd num (.lev 0) d r (.bad a e)):Rd num (.args xs) d (t :: r) (.bad a e):=
 rd_eq (ev_bad (K:=fun f ys r'=>pF num f (.args (xs ++ ys)) d r') h) fun f=>by
  conv=>lhs;unfold pF
  simp only;rw [if_pos ht]
def SetK(num:Bs→Nat×Nat)(f k a d:Nat)(l:List Tk):OO:=nameK l fun s r1=>must [61] r1 fun r2=>pF num f (.fin k a s []) d r2
theorem r_fin{k a d:Nat}{s:Bs}{ps:List Bs}{l r:List Tk}{t:Tk}{xs:List Tr}(h:Rd num (.lev 0) d l (.ok xs (t :: r)))(ht:isS [59] t=true):Rd num (.fin k a s ps) d l (.ok [.mk k a s 0 ps xs] r):=
 rd_eq (ev_bnd (K:=fun _ xs r=>must [59] r fun r'=>some (.ok [.mk k a s 0 ps xs] r')) h (ev_eq (ev_now _) fun _=>must_y ht _)) fun f=>by conv=>lhs;unfold pF
theorem r_fin_end{k a d:Nat}{s:Bs}{ps:List Bs}{l r:List Tk}{t:Tk}{xs:List Tr}(h:Rd num (.lev 0) d l (.ok xs (t :: r)))(ht:isS [59] t=false):Rd num (.fin k a s ps) d l (.bad t.at_ 100):=
 rd_eq (ev_bnd (K:=fun _ xs r=>must [59] r fun r'=>some (.ok [.mk k a s 0 ps xs] r')) h (ev_eq (ev_now _) fun _=>must_n ht _)) fun f=>by conv=>lhs;unfold pF
theorem r_fin_bad{k a d p e:Nat}{s:Bs}{ps:List Bs}{l:List Tk}(h:Rd num (.lev 0) d l (.bad p e)):Rd num (.fin k a s ps) d l (.bad p e):=
 rd_eq (ev_bad (K:=fun _ xs r=>must [59] r fun r'=>some (.ok [.mk k a s 0 ps xs] r')) h) fun f=>by conv=>lhs;unfold pF
theorem in_(f d:Nat)(t:Tk)(r:List Tk):pF num (f+1) .inner d (t :: r)=if 60 < d then wrong (t :: r) 150
   else if isS [102,111,114] t=true then nameK r fun s r1=>must [105,110] r1 fun r2=>bnd (pF num f (.lev 0) d r2) fun xs r3=>must [46,46] r3 fun r4=>bnd (pF num f (.lev 0) d r4) fun ys r5=>must [123] r5 fun r6=>
    bnd (pF num f (.inners (xs ++ ys)) d r6) fun zs r7=>some (.ok [.mk 11 t.at_ s 0 [] zs] r7)
   else SetK num f 10 t.at_ d (t :: r):=rfl
theorem r_deepI{d:Nat}{t:Tk}{r:List Tk}(hd:60 < d):Rd num .inner d (t :: r) (.bad t.at_ 150):=rd_eq (ev_now _) fun f=>by rw [in_,if_pos hd];rfl
theorem r_let{d:Nat}{t:Tk}{r:List Tk}{o:Out}(hd:d≤60)(ht:isS [102,111,114] t=false)(h:Ev (fun f=>SetK num f 10 t.at_ d (t :: r)) o):Rd num .inner d (t :: r) o:=
 rd_eq h fun f=>by rw [in_,if_neg (by omega),if_neg (by rw [ht];decide)]
def ForK(num:Bs→Nat×Nat)(f a d:Nat)(r:List Tk):OO:=nameK r fun s r1=>must [105,110] r1 fun r2=>bnd (pF num f (.lev 0) d r2) fun xs r3=>must [46,46] r3 fun r4=>bnd (pF num f (.lev 0) d r4) fun ys r5=>must [123] r5 fun r6=>
    bnd (pF num f (.inners (xs ++ ys)) d r6) fun zs r7=>some (.ok [.mk 11 a s 0 [] zs] r7)
theorem r_for{d:Nat}{t:Tk}{r:List Tk}{o:Out}(hd:d≤60)(ht:isS [102,111,114] t=true)(h:Ev (fun f=>ForK num f t.at_ d r) o):Rd num .inner d (t :: r) o:=
 rd_eq h fun f=>by rw [in_,if_neg (by omega),if_pos ht];rfl
theorem r_inners_end{d:Nat}{t:Tk}{r:List Tk}{zs:List Tr}(ht:isS [125] t=true):Rd num (.inners zs) d (t :: r) (.ok zs r):=
 rd_eq (ev_now _) fun f=>by
  conv=>lhs;unfold pF
  simp only;rw [if_pos ht]
theorem r_inners{d:Nat}{t:Tk}{r r':List Tk}{zs xs:List Tr}{o:Out}(ht:isS [125] t=false)(h:Rd num .inner (d+1) (t :: r) (.ok xs r'))(h2:Rd num (.inners (zs ++ xs)) d r' o):Rd num (.inners zs) d (t :: r) o:=
 rd_eq (ev_bnd (K:=fun f xs r'=>pF num f (.inners (zs ++ xs)) d r') h h2) fun f=>by
  conv=>lhs;unfold pF
  simp only;rw [if_neg (by rw [ht];decide)]
theorem r_inners_bad{d a e:Nat}{t:Tk}{r:List Tk}{zs:List Tr}(ht:isS [125] t=false)(h:Rd num .inner (d+1) (t :: r) (.bad a e)):Rd num (.inners zs) d (t :: r) (.bad a e):=
 rd_eq (ev_bad (K:=fun f xs r'=>pF num f (.inners (zs ++ xs)) d r') h) fun f=>by
  conv=>lhs;unfold pF
  simp only;rw [if_neg (by rw [ht];decide)]
def InK(k a:Nat)(r:List Tk):OO:=namesK [] r fun ps r1=>must [59] r1 fun r2=>some (.ok [.mk k a [] 0 ps []] r2)
def FnK(num:Bs→Nat×Nat)(f a d:Nat)(r:List Tk):OO:=nameK r fun s r1=>must [40] r1 fun r2=>namesK [] r2 fun ps r3=>must [41] r3 fun r4=>must [61] r4 fun r5=>pF num f (.fin 12 a s ps) d r5
theorem st_(f d:Nat)(t:Tk)(r:List Tk):pF num (f+1) .stmt d (t :: r)=if isS [115,101,99,114,101,116] t=true then InK 6 t.at_ r
   else if isS [112,117,98,108,105,99] t=true then InK 7 t.at_ r
   else if isS [111,117,116] t=true then SetK num f 8 t.at_ d r
   else if isS [115,104,111,119] t=true then SetK num f 9 t.at_ d r
   else if isS [102,110] t=true then FnK num f t.at_ d r
   else pF num f .inner 0 (t :: r):=rfl
theorem r_stmts_end{d:Nat}{t:Tk}{r:List Tk}{xs:List Tr}(ht:t.k = 0):Rd num (.stmts xs) d (t :: r) (.ok xs (t :: r)):=
 rd_eq (ev_now _) fun f=>by
  conv=>lhs;unfold pF
  simp only;rw [if_pos ht]
theorem r_stmts{d:Nat}{t:Tk}{r r':List Tk}{xs ys:List Tr}{o:Out}(ht:t.k≠0)(h:Rd num .stmt 0 (t :: r) (.ok ys r'))(h2:Rd num (.stmts (xs ++ ys)) d r' o):Rd num (.stmts xs) d (t :: r) o:=
 rd_eq (ev_bnd (K:=fun f ys r'=>pF num f (.stmts (xs ++ ys)) d r') h h2) fun f=>by
  conv=>lhs;unfold pF
  simp only;rw [if_neg ht]
theorem r_stmts_bad{d a e:Nat}{t:Tk}{r:List Tk}{xs:List Tr}(ht:t.k≠0)(h:Rd num .stmt 0 (t :: r) (.bad a e)):Rd num (.stmts xs) d (t :: r) (.bad a e):=
 rd_eq (ev_bad (K:=fun f ys r'=>pF num f (.stmts (xs ++ ys)) d r') h) fun f=>by
  conv=>lhs;unfold pF
  simp only;rw [if_neg ht]
end
end Go.Proofs.YtdhoemlomojfaaaGreatDoor.Pa
namespace Go.Proofs.YtdhoemlomojfaaaGreatDoor.Pa
open Go Go.ChangeShapes Go.WideShapes Go.ChangeAt Go.RowKit Lx Args
section
attribute [local go_sem] fTk0 fTk1 fTk2
theorem is_(w:World)(bp d:Nat)(t:Tk)(r:List Tk)(b:Bs)(hp:PS w bp (t :: r) d) :
  Calls Tryz.prog 110 #[.pointer (some ⟨bp,0,none⟩),.string ⟨b.toArray⟩] w fun e w'=>e = .returned (.bool (t.s==b))∧Below w.heap.size w w':=by
 have HN:=Hi (next w bp d t r hp);clear hp;go_enter Tryz.func110,Tryz.ntmps110;go_wp2_with fail
 refine HN.out.mono ?_;rintro e w1 ⟨rfl,hb1⟩;have HB1:=Hi hb1;clear hb1;go_wp2_with fail
 go_ret;exact ⟨rfl,HB1.out⟩
theorem take(w:World)(bp d:Nat)(t:Tk)(r:List Tk)(hp:PS w bp (t :: r) d)(hr:r≠[]) :
  Calls Tryz.prog 86 #[.pointer (some ⟨bp,0,none⟩)] w fun e w'=>e = .returned (.agg #[.int .i64 (t.k:Int),.string ⟨t.s.toArray⟩,.int .i64 (t.at_:Int)])∧PS w' bp r d∧UB bp w w':=by
 obtain ⟨w0,hw0⟩:∃ w0,w.alloc (.cells #[.int .i64 0,.string ⟨#[]⟩,.int .i64 0] 134)=w0:=⟨_,rfl⟩;have hb0:Below w.heap.size w w0:=by rw [←hw0];exact (Below.refl _ _).alloc (Nat.le_refl _) _
 have hB:Blk w0 w.heap.size 134 #[.int .i64 0,.string ⟨#[]⟩,.int .i64 0]:=by rw [←hw0];exact Blk.new _ _ _
 have hlt:=hp.lt;have HN:=Hi (next w0 bp d t r (hp.below hb0));have HP:=Hi (hp.below hb0);have HB0:=Hi hb0;have HB:=Hi hB;have HW:=Hi hw0;clear hb0 hB hp hw0;go_enter Tryz.func86,Tryz.ntmps86;go_wp2_with fail
 rw [HW.out];refine HN.out.mono ?_;rintro e w1 ⟨rfl,hb1⟩;obtain ⟨b,o,c,hn,hc1,hc2,f0,f1,f2,f3,f4,f5,f6⟩:=(HP.out.below hb1).head;have HP1:=Hi (HP.out.below hb1);have hlt1:=(HP.out.below hb1).lt;have hlt0:=HB.out.lt;have h1:Blk w1 w.heap.size 134 #[.int .i64 0,.string ⟨#[]⟩,.int .i64 0]:=HB.out.below hb1 hlt0;have HB1:=Hi (HB0.out.trans (hb1.mono HB0.out.size));have H1:=Hi h1;have hrl:r.length≠0:=fun h=>hr (List.length_eq_zero_iff.1 h)
 have hne:w.heap.size≠bp:=by omega
 have hlg:w.heap.size < w1.heap.size:=h1.lt;obtain ⟨e0,e1,e2,z0,z1,z2⟩:=Blk.c3 h1;have HF0:=Hi f0;clear h1 hb1 hr f1 f3 f4 f5 f6;go_wp2_with fail
 refine bodyPost_ret (resTk rfl rfl ((Blk.put3 (H1.out.far hne _) _ _ _).alloc _) rfl) rfl ⟨rfl,?_,?_⟩
 ·exact (PS.take HP1.out HF0.out).far ((((((Upd.refl (fun b=>bp < b) _).setCell (fun _=>hlt) _).setCell (fun _=>hlt) _).setCell (fun _=>hlt) _).alloc _)) (fun _ h=>h)
 ·have hg:∀ q:Nat,w.heap.size < w.heap.size→q=bp:=fun q h=>absurd h (Nat.lt_irrefl _)
  exact ((((((below_UB (bp:=bp) HB1.out).setCell (fun _=>rfl) _).setCell (hg _) _).setCell (hg _) _).setCell (hg _) _).alloc _)
abbrev panV(a er:Nat):Ending:=.panicked [{ v:=.iface 128 (.agg #[.int .i64 (a:Int),.int .i64 (er:Int)]),recovered:=false }]
theorem must_no(w:World)(bp d:Nat)(t:Tk)(r:List Tk)(b:Bs)(hp:PS w bp (t :: r) d)(hb:(t.s==b)=false) :
  Calls Tryz.prog 107 #[.pointer (some ⟨bp,0,none⟩),.string ⟨b.toArray⟩] w fun e w'=>e=panV t.at_ 100∧UB bp w w':=by
 obtain ⟨w0,hw0⟩:∃ w0,w.alloc (.cells #[.int .i64 0,.string ⟨#[]⟩,.int .i64 0] 134)=w0:=⟨_,rfl⟩;have hb0:Below w.heap.size w w0:=by rw [←hw0];exact (Below.refl _ _).alloc (Nat.le_refl _) _
 have hI:=is_ w0 bp d t r b (hp.below hb0);rw [hb] at hI;have HI:=Hi hI;have HP:=Hi (hp.below hb0);have HB0:=Hi hb0;have HW:=Hi hw0;clear hb0 hp hw0 hI hb;go_enter Tryz.func107,Tryz.ntmps107;go_wp2_with fail
 rw [HW.out];refine HI.out.mono ?_;rintro e w1 ⟨rfl,hb1⟩;have HH:=Hi (here w1 bp d t r 100 (HP.out.below hb1));have HB1:=Hi (HB0.out.trans (hb1.mono HB0.out.size));clear hb1;go_wp2_with fail
 refine HH.out.mono ?_;rintro e w2 ⟨rfl,hb2⟩;have HB2:=Hi (HB1.out.trans (hb2.mono HB1.out.size));clear hb2;go_wp2_with fail
 exact ⟨rfl,rfl,below_UB HB2.out⟩
end
section
attribute [local go_sem] fTk0 fTk1 fTk2
theorem must_yes(w:World)(bp d:Nat)(t:Tk)(r:List Tk)(b:Bs)(hp:PS w bp (t :: r) d)(hb:(t.s==b)=true)(hr:r≠[]) :
  Calls Tryz.prog 107 #[.pointer (some ⟨bp,0,none⟩),.string ⟨b.toArray⟩] w fun e w'=>e = .returned (.agg #[.int .i64 (t.k:Int),.string ⟨t.s.toArray⟩,.int .i64 (t.at_:Int)])∧PS w' bp r d∧UB bp w w':=by
 obtain ⟨w0,hw0⟩:∃ w0,w.alloc (.cells #[.int .i64 0,.string ⟨#[]⟩,.int .i64 0] 134)=w0:=⟨_,rfl⟩;have hb0:Below w.heap.size w w0:=by rw [←hw0];exact (Below.refl _ _).alloc (Nat.le_refl _) _
 have hB:Blk w0 w.heap.size 134 #[.int .i64 0,.string ⟨#[]⟩,.int .i64 0]:=by rw [←hw0];exact Blk.new _ _ _
 have hlt:=hp.lt;have hI:=is_ w0 bp d t r b (hp.below hb0);rw [hb] at hI;have HI:=Hi hI;have HP:=Hi (hp.below hb0);have HB0:=Hi hb0;have HB:=Hi hB;have HW:=Hi hw0;have HR:=Hi hr;clear hb0 hp hw0 hI hb hB hr;go_enter Tryz.func107,Tryz.ntmps107;go_wp2_with fail
 rw [HW.out];refine HI.out.mono ?_;rintro e w1 ⟨rfl,hb1⟩;have HT:=Hi (take w1 bp d t r (HP.out.below hb1) HR.out);have HB1:=Hi (HB.out.below hb1 HB.out.lt);have HU1:=Hi ((below_UB (bp:=bp) HB0.out).trans (below_UB (bp:=bp) hb1));clear hb1;go_wp2_with fail
 refine HT.out.mono ?_;rintro e w2 ⟨rfl,hp2,hu2⟩;have h2:Blk w2 w.heap.size 134 #[.int .i64 0,.string ⟨#[]⟩,.int .i64 0]:=HB1.out.upd hu2 (by omega);obtain ⟨e0,e1,e2,z0,z1,z2⟩:=Blk.c3 h2;have H2:=Hi h2;have HP2:=Hi hp2;have HU2:=Hi (HU1.out.trans hu2);clear h2 hp2 hu2;go_wp2_with fail
 refine bodyPost_ret (resTk rfl rfl (Blk.put3 H2.out _ _ _) rfl) rfl ⟨rfl,?_,?_⟩
 ·exact HP2.out.far ((((Upd.refl (fun b=>bp < b) _).setCell (fun _=>hlt) _).setCell (fun _=>hlt) _).setCell (fun _=>hlt) _) (fun _ h=>h)
 ·have hg:∀ q:Nat,w.heap.size < w.heap.size→q=bp:=fun q h=>absurd h (Nat.lt_irrefl _)
  exact (((HU2.out.setCell (hg _) _).setCell (hg _) _).setCell (hg _) _)
theorem name_no(w:World)(bp d:Nat)(t:Tk)(r:List Tk)(hp:PS w bp (t :: r) d)(hk:t.k≠1) :
  Calls Tryz.prog 108 #[.pointer (some ⟨bp,0,none⟩)] w fun e w'=>e=panV t.at_ 100∧UB bp w w':=by
 have HN:=Hi (next w bp d t r hp);have HP:=Hi hp;have hq:((t.k:Int) != 1)=true:=by simp;omega
 clear hp hk;go_enter Tryz.func108,Tryz.ntmps108;go_wp2_with fail
 refine HN.out.mono ?_;rintro e w1 ⟨rfl,hb1⟩;have HH:=Hi (here w1 bp d t r 100 (HP.out.below hb1));have HB1:=Hi hb1;clear hb1;go_wp2_with fail
 refine HH.out.mono ?_;rintro e w2 ⟨rfl,hb2⟩;have HB2:=Hi (HB1.out.trans (hb2.mono HB1.out.size));clear hb2;go_wp2_with fail
 exact ⟨rfl,rfl,below_UB HB2.out⟩
theorem name_yes(w:World)(bp d:Nat)(t:Tk)(r:List Tk)(hp:PS w bp (t :: r) d)(hk:t.k = 1)(hr:r≠[]) :
  Calls Tryz.prog 108 #[.pointer (some ⟨bp,0,none⟩)] w fun e w'=>e = .returned (.string ⟨t.s.toArray⟩)∧PS w' bp r d∧UB bp w w':=by
 have hn:=next w bp d t r hp;rw [hk] at hn;have HN:=Hi hn;have HP:=Hi hp;have HR:=Hi hr;clear hp hk hn hr;go_enter Tryz.func108,Tryz.ntmps108;go_wp2_with fail
 refine HN.out.mono ?_;rintro e w1 ⟨rfl,hb1⟩;have HT:=Hi (take w1 bp d t r (HP.out.below hb1) HR.out);have HU1:=Hi (below_UB (bp:=bp) hb1);clear hb1;go_wp2_with fail
 refine HT.out.mono ?_;rintro e w2 ⟨rfl,hp2,hu2⟩;have HP2:=Hi hp2;have HU2:=Hi (HU1.out.trans hu2);clear hp2 hu2;go_wp2_with fail
 go_ret;exact ⟨rfl,HP2.out,HU2.out⟩
theorem node(w:World)(k a:Nat)(s:Bs)(A:Option Addr)(la cA:Nat) :
  Calls Tryz.prog 72 #[.int .i64 (k:Int),.string ⟨s.toArray⟩,.int .i64 (a:Int),.slice A la cA] w fun e w'=>
   e = .returned (.agg #[.int .i64 (k:Int),.string ⟨s.toArray⟩,.int .u32 0,.int .i64 (a:Int),.slice A la cA,.slice none 0 0])∧Below w.heap.size w w':=by
 go_enter Tryz.func72,Tryz.ntmps72;go_wp2_with fail
 refine bodyPost_ret (resNd rfl rfl (Blk.new _ _ _) rfl) rfl ⟨rfl,?_⟩;exact (Below.refl _ _).alloc (Nat.le_refl _) _
theorem sign(w:World)(s:Bs) :
  Calls Tryz.prog 160 #[.string ⟨s.toArray⟩] w fun e w'=>e = .returned (.tuple #[.int .i64 (kindT s:Int),.int .i64 (levT s:Int)])∧w=w':=by
 by_cases h0:s=[124]
 ·subst h0;go_enter Tryz.func160,Tryz.ntmps160;go_wp2_with fail
  go_ret2
  exact ⟨rfl,rfl⟩
 by_cases h1:s=[94]
 ·subst h1;go_enter Tryz.func160,Tryz.ntmps160;go_wp2_with fail
  go_ret2
  exact ⟨rfl,rfl⟩
 by_cases h2:s=[38]
 ·subst h2;go_enter Tryz.func160,Tryz.ntmps160;go_wp2_with fail
  go_ret2
  exact ⟨rfl,rfl⟩
 by_cases h3:s=[60,60]
 ·subst h3;go_enter Tryz.func160,Tryz.ntmps160;go_wp2_with fail
  go_ret2
  exact ⟨rfl,rfl⟩
 by_cases h4:s=[62,62]
 ·subst h4;go_enter Tryz.func160,Tryz.ntmps160;go_wp2_with fail
  go_ret2
  exact ⟨rfl,rfl⟩
 by_cases h5:s=[60,60,60]
 ·subst h5;go_enter Tryz.func160,Tryz.ntmps160;go_wp2_with fail
  go_ret2
  exact ⟨rfl,rfl⟩
 by_cases h6:s=[43]
 ·subst h6;go_enter Tryz.func160,Tryz.ntmps160;go_wp2_with fail
  go_ret2
  exact ⟨rfl,rfl⟩
 by_cases h7:s=[45]
 ·subst h7;go_enter Tryz.func160,Tryz.ntmps160;go_wp2_with fail
  go_ret2
  exact ⟨rfl,rfl⟩
 have hz:levT s = 0:=by simp [levT,h0,h1,h2,h3,h4,h5,h6,h7]
 have hk:kindT s = 0:=by simp [kindT,hz]
 rw [hz,hk];have g0:(s==[124])=false:=by simpa using h0
 have g1:(s==[94])=false:=by simpa using h1
 have g2:(s==[38])=false:=by simpa using h2
 have g3:(s==[60,60])=false:=by simpa using h3
 have g4:(s==[62,62])=false:=by simpa using h4
 have g5:(s==[60,60,60])=false:=by simpa using h5
 have g6:(s==[43])=false:=by simpa using h6
 have g7:(s==[45])=false:=by simpa using h7
 clear hz hk;go_enter Tryz.func160,Tryz.ntmps160;go_wp2_with fail
 go_ret2
 exact ⟨rfl,rfl⟩
end
end Go.Proofs.YtdhoemlomojfaaaGreatDoor.Pa
namespace Go.Proofs.YtdhoemlomojfaaaGreatDoor.Num
open Go.ChangeShapes Go.WideShapes Go.ChangeAt Go.RowKit
def dvN(c:Nat):Nat:=if 48≤c∧c≤57 then c - 48 else if 97≤c∧c≤102 then c - 87 else if 65≤c∧c≤70 then c - 55 else 16
theorem dvN_le(c:Nat):dvN c≤16:=by unfold dvN;split <;> (try split) <;> (try split) <;> omega
theorem digitC(c:Nat)(hc:c < 256)(w:World):Calls Tryz.prog 191 #[.int .u8 c] w fun e w'=>e = .returned (.int .u64 (dvN c:Nat))∧w=w':=by
 by_cases h1:48≤c∧c≤57
 ·have hd:dvN c=c - 48:=by simp [dvN,h1]
  obtain ⟨a,b⟩:=h1;have HD:=Hi hd;clear hd;go_enter Tryz.func191,Tryz.ntmps191
  go_wp2
  go_ret;exact ⟨by rw [HD.out];go_num,rfl⟩
 by_cases h2:97≤c∧c≤102
 ·have hd:dvN c=c - 87:=by simp [dvN,h1,h2]
  obtain ⟨a,b⟩:=h2;have HD:=Hi hd;clear hd h1;have n1:¬ c≤57:=by omega
  go_enter Tryz.func191,Tryz.ntmps191
  go_wp2
  go_ret;exact ⟨by rw [HD.out];go_num,rfl⟩
 by_cases h3:65≤c∧c≤70
 ·have hd:dvN c=c - 55:=by simp [dvN,h1,h2,h3]
  obtain ⟨a,b⟩:=h3;have HD:=Hi hd;clear hd h1 h2;have n1:¬ c≤57:=by omega
  have n2:¬ 97≤c:=by omega
  go_enter Tryz.func191,Tryz.ntmps191
  go_wp2
  go_ret;exact ⟨by rw [HD.out];go_num,rfl⟩
 have hd:dvN c = 16:=by simp [dvN,h1,h2,h3]
 have HD:=Hi hd;clear hd;have hr:c < 48∨(57 < c∧c < 65)∨(70 < c∧c < 97)∨102 < c:=by omega
 clear h1 h2 h3;rcases hr with r | ⟨r1,r2⟩ | ⟨r1,r2⟩ | r
 all_goals
  go_enter Tryz.func191,Tryz.ntmps191
  go_wp2
  go_ret;exact ⟨by rw [HD.out];rfl,rfl⟩
def nrun(base:Nat):List UInt8→Nat→Option Nat
 | [],n=>some n
 | c :: l,n=>if dvN c.toNat < base then nrun base l (min (n * base+dvN c.toNat) 4294967296) else none
def numR(base:Nat)(L:List UInt8):Nat×Nat:=
 if L=[] then (0,4) else match nrun base L 0 with
  | none=>(0,4)
  | some n=>if n = 4294967296 then (0,2) else (n,0)
def resN(r:Nat×Nat):Value:=.tuple #[.int .u32 (r.1:Nat),.int .i64 (r.2:Nat)]
end Go.Proofs.YtdhoemlomojfaaaGreatDoor.Num
