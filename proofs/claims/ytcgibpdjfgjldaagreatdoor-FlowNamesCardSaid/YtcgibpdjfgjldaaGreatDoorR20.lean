/- DERIVED. PaRd, PaRe, PaSn, PaSo, PaNa, Shelf, PaNb, PaSq. By an AI agent. -/
import Derived.Test.YtcgibpdjfgjldaaGreatDoorR05
import Derived.Test.YtcgibpdjfgjldaaGreatDoorProg
import Derived.Deep.QuietTactic
import Derived.Outline
import Derived.WalkSpells
import Derived.Lib.Strings
import Derived.Shelf.Strings.Trim
import Derived.Shelf.Small.Utf8
import Derived.Shelf.Small.Strs
import Derived.Shelf.Small.Wraps
import Derived.Shelf.Strings.Search1
import Derived.Shelf.Strings.Search2
import Derived.Shelf.Strings.Search3
import Derived.Shelf.Strings.Cut
import Derived.Shelf.LaysM
import Derived.Shelf.Strings.Shaped
import Derived.Shelf.Strings.Prefix
import Derived.Shelf.Unicode.Decode
import Derived.Shelf.Strings.Runes
import Derived.Shelf.Strings.AsciiSet
import Derived.Shelf.Unicode.DecodeSlow
import Derived.Shelf.Unicode.DecodeAny
import Derived.Shelf.Slices.Turned
set_option maxRecDepth 100000
set_option maxHeartbeats 2000000
set_option linter.unusedVariables false
set_option linter.unusedSimpArgs false
namespace Go.Proofs.YtcgibpdjfgjldaaGreatDoor
namespace Pa
open Lx
section
variable {num : Bs -> Nat × Nat}
def Ev(K:Nat->OO)(o:Out):Prop:=∃ g,∀ f,g<=f->K f=some o
def Rd(num:Bs->Nat×Nat)(nt:NT)(d:Nat)(l:List Tk)(o:Out):Prop:=Ev (fun f=>pF num f nt d l) o
theorem Rd.at_{nt:NT}{d:Nat}{l:List Tk}{o:Out}(h:Rd num nt d l o):∃ f,pF num f nt d l=some o:=by
 obtain ⟨g,hg⟩:=h;exact ⟨g,hg g (Nat.le_refl _)⟩
theorem Rd.one{nt:NT}{d:Nat}{l:List Tk}{o o':Out}(h:Rd num nt d l o)(h':Rd num nt d l o'):o=o':=by
 obtain ⟨f,hf⟩:=h.at_;obtain ⟨g,hg⟩:=h'.at_;exact pF_one hf hg
theorem q0a(o:Out):Ev (fun _=>some o) o:=⟨0,fun _ _=>rfl⟩
theorem q0x{A:Nat->OO}{K:Nat->List Tr->List Tk->OO}{xs:List Tr}{r:List Tk}{o:Out}(h:Ev A (.ok xs r))(h2:Ev (fun f=>K f xs r) o):Ev (fun f=>bnd (A f) (K f)) o:=by
 obtain ⟨a,ha⟩:=h;obtain ⟨b,hb⟩:=h2;refine ⟨max a b,fun f hf=>?_⟩;show bnd (A f) (K f)=_;rw [ha f (Nat.le_trans (Nat.le_max_left _ _) hf)];exact hb f (Nat.le_trans (Nat.le_max_right _ _) hf)
theorem q0X{A:Nat->OO}{K:Nat->List Tr->List Tk->OO}{a e:Nat}(h:Ev A (.bad a e)):Ev (fun f=>bnd (A f) (K f)) (.bad a e):=by
 obtain ⟨g,hg⟩:=h;refine ⟨g,fun f hf=>?_⟩;show bnd (A f) (K f)=_;rw [hg f hf];rfl
theorem q0j{nt:NT}{d:Nat}{l:List Tk}{o:Out}{K:Nat->OO}(h:Ev K o)(he:∀ f,pF num (f+1) nt d l=K f):Rd num nt d l o:=by
 obtain ⟨g,hg⟩:=h;refine ⟨g+1,fun f hf=>?_⟩;obtain ⟨k,rfl⟩:∃ k,f=k+1:=⟨f - 1,V0⟩;show pF num (k+1) nt d l=_;rw [he];exact hg k V0
theorem r_lev{n d:Nat}{l r:List Tk}{xs:List Tr}{o:Out}(hn:n < 5)(h:Rd num (.aI (n+1)) d l (.ok xs r))(h2:Rd num (.more n (hd xs)) d r o):Rd num (.aI n) d l o:=
 q0j (q0x (K:=fun f xs r=>pF num f (.more n (hd xs)) d r) h h2) fun f=>by
  conv=>lhs;unfold pF
  rw [if_pos hn]
theorem q2N{n d a e:Nat}{l:List Tk}(hn:n < 5)(h:Rd num (.aI (n+1)) d l (.bad a e)):Rd num (.aI n) d l (.bad a e):=
 q0j (q0X (K:=fun f xs r=>pF num f (.more n (hd xs)) d r) h) fun f=>by
  conv=>lhs;unfold pF
  rw [if_pos hn]
theorem q6b{n d:Nat}{l:List Tk}{x:Tr}(h:∀ t r,l=t :: r->onS n t=false):Rd num (.more n x) d l (.ok [x] l):=
 q0j (q0a _) fun f=>by
  cases l with
  | nil=>rfl
  | cons t r=>
   conv=>lhs;unfold pF
   simp only;rw [if_neg (by rw [h t r rfl];decide)]
def bin(n:Nat)(x:Tr)(s:Bs)(ys:List Tr):Tr:=.mk (if n = 3 then 4 else 3) x.place s 0 [] (x :: ys)
theorem r_go{n d:Nat}{t:Tk}{r r':List Tk}{x:Tr}{ys:List Tr}{o:Out}(ht:onS n t=true)(h:Rd num (.aI (n+1)) d r (.ok ys r'))(h2:Rd num (.more n (bin n x t.s ys)) d r' o):Rd num (.more n x) d (t :: r) o:=
 q0j (q0x (K:=fun f ys r'=>pF num f (.more n (bin n x t.s ys)) d r') h h2) fun f=>by
  conv=>lhs;unfold pF
  simp only;rw [if_pos ht];rfl
theorem q55{n d a e:Nat}{t:Tk}{r:List Tk}{x:Tr}(ht:onS n t=true)(h:Rd num (.aI (n+1)) d r (.bad a e)):Rd num (.more n x) d (t :: r) (.bad a e):=
 q0j (q0X (K:=fun f ys r'=>pF num f (.more n (bin n x t.s ys)) d r') h) fun f=>by
  conv=>lhs;unfold pF
  simp only;rw [if_pos ht];rfl
def Stp(n:Nat)(l:List Tk):Prop:=∀ t r,l=t :: r->∀ m,n<=m->m < 5->onS m t=false
theorem lev_stp:∀ (f:Nat),(∀ (n d:Nat) (l r:List Tk) (xs:List Tr),pF num f (.aI n) d l=some (.ok xs r)->Stp n r) /\
  (∀ (n:Nat) (x:Tr) (d:Nat) (l r:List Tk) (xs:List Tr),Stp (n+1) l->pF num f (.more n x) d l=some (.ok xs r)->Stp n r):=by
 intro f
 induction f with
 | zero=>exact ⟨fun n d l r xs h=>VX,fun n x d l r xs _ h=>VX⟩
 | succ f ih=>
  refine ⟨fun n d l r xs h=>?_,fun n x d l r xs hs h=>?_⟩
  ·by_cases hn:n < 5
   ·unfold pF at h;rw [if_pos hn] at h;rcases h1:pF num f (.aI (n+1)) d l with _ | ⟨ys,r1⟩ | ⟨a,e⟩
    ·rw [h1] at h;cases h
    ·rw [h1] at h;exact ih.2 n _ d r1 r xs (ih.1 _ _ _ _ _ h1) h
    ·rw [h1] at h;cases h
   ·intro t r' _ m h1 h2;omega
  ·cases l with
   | nil=>
    unfold pF at h;simp only [Option.some.injEq,Out.ok.injEq] at h;obtain ⟨_,rfl⟩:=h;intro t r' h;cases h
   | cons t r0=>
    unfold pF at h;simp only at h;by_cases ht:onS n t=true
    ·rw [if_pos ht] at h;rcases h1:pF num f (.aI (n+1)) d r0 with _ | ⟨ys,r1⟩ | ⟨a,e⟩
     ·rw [h1] at h;cases h
     ·rw [h1] at h;exact ih.2 n _ d r1 r xs (ih.1 _ _ _ _ _ h1) h
     ·rw [h1] at h;cases h
    ·rw [if_neg ht] at h;simp only [Option.some.injEq,Out.ok.injEq] at h;obtain ⟨_,rfl⟩:=h;intro t' r' e m h1 h2;cases e;by_cases hm:m=n
     ·subst hm;simpa using ht
     ·exact hs t r0 rfl m V0 h2
theorem Rd.stp{n d:Nat}{l r:List Tk}{xs:List Tr}(h:Rd num (.aI n) d l (.ok xs r)):Stp n r:=by
 obtain ⟨f,hf⟩:=h.at_;exact (lev_stp f).1 _ _ _ _ _ hf
def Ch(num:Bs->Nat×Nat)(j d:Nat):Nat->Tr->List Tk->Out->Prop
 | 0,x,r,o=>o = .ok [x] r
 | m+1,x,r,o=>(∃ y r',Rd num (.more (j+m) x) d r (.ok [y] r')/\Ch num j d m y r' o)\/(∃ a e,Rd num (.more (j+m) x) d r (.bad a e)/\o = .bad a e)
theorem q8s{j d:Nat}{l:List Tk}{o:Out}:∀ (m:Nat) (x:Tr) (r:List Tk),j+m<=5->Rd num (.aI (j+m)) d l (.ok [x] r)->Ch num j d m x r o->Rd num (.aI j) d l o
 | 0,x,r,_,h,hc=>by
  have:o = .ok [x] r:=hc;subst this;exact h
 | m+1,x,r,hm,h,hc=>by
  rcases hc with ⟨y,r',h1,h2⟩ | ⟨a,e,h1,rfl⟩
  ·exact q8s m y r' V0 (r_lev V0 h h1) h2
  ·have h3:Rd num (.aI (j+m)) d l (.bad a e):=r_lev V0 h h1;clear h h1
   induction m with
   | zero=>exact h3
   | succ m ih=>exact ih V0 (q2N V0 h3)
theorem q41{n d:Nat}{x:Tr}{r:List Tk}{o:Out}(h:∀ t r',r=t :: r'->onS n t=false)(hr:Rd num (.more n x) d r o):o = .ok [x] r:=hr.one (q6b h)
theorem q2O{j d:Nat}{o:Out}{x:Tr}{r:List Tk}:∀ (m n:Nat),n<=m->j+m<=5->(∀ t r',r=t :: r'->∀ i,j+n<=i->i < 5->onS i t=false)->(Ch num j d m x r o↔Ch num j d n x r o)
 | 0,n,hn,_,_=>by
  obtain rfl:n = 0:=V0;exact Iff.rfl
 | m+1,n,hn,hm,h=>by
  by_cases e:n=m+1
  ·subst e;exact Iff.rfl
  ·refine Iff.trans ?_ (q2O m n V0 V0 h);have hs:∀ t r',r=t :: r'->onS (j+m) t=false:=fun t r' e=>h t r' e _ V0 V0
   constructor
   ·rintro (⟨y,r',h1,h2⟩ | ⟨a,e,h1,_⟩)
    ·have:=q41 hs h1;simp only [Out.ok.injEq,List.cons.injEq,and_true] at this;obtain ⟨rfl,rfl⟩:=this;exact h2
    ·have:=q41 hs h1;cases this
   ·intro h2;exact .inl ⟨x,r,q6b hs,h2⟩
theorem ch_sign{j d m q:Nat}{o:Out}{x:Tr}{t:Tk}{r r':List Tk}{ys:List Tr}(hm:j+m = 5)(hq:j<=q)(hq5:q < 5)(ht:∀ i,i < 5->onS i t=decide (i=q))(h1:Rd num (.aI (q+1)) d r (.ok ys r'))
  (h2:Ch num j d m (bin q x t.s ys) r' o):Ch num j d m x (t :: r) o:=by
 obtain ⟨k,rfl⟩:∃ k,q=j+k:=⟨q - j,V0⟩;refine (q2O m (k+1) V0 V0 fun t' r0 e i hi h5=>?_).2 ?_
 ·cases e;rw [ht i h5];simp;omega
 ·have hstp:=h1.stp;have h3:=(q2O m (k+1) V0 V0 fun t' r0 e i hi h5=>hstp t' r0 e i V0 h5).1 h2;have hon:onS (j+k) t=true:=by rw [ht _ hq5];simp
  rcases h3 with ⟨y,r2,h4,h5⟩ | ⟨a,e,h4,rfl⟩
  ·exact .inl ⟨y,r2,r_go hon h1 h4,h5⟩
  ·exact .inr ⟨a,e,r_go hon h1 h4,rfl⟩
theorem q4E{j d m q a e:Nat}{x:Tr}{t:Tk}{r:List Tk}(hm:j+m = 5)(hq:j<=q)(hq5:q < 5)(ht:∀ i,i < 5->onS i t=decide (i=q))(h1:Rd num (.aI (q+1)) d r (.bad a e)) :
  Ch num j d m x (t :: r) (.bad a e):=by
 obtain ⟨k,rfl⟩:∃ k,q=j+k:=⟨q - j,V0⟩;refine (q2O m (k+1) V0 V0 fun t' r0 e i hi h5=>?_).2 ?_
 ·cases e;rw [ht i h5];simp;omega
 ·exact .inr ⟨a,e,q55 (by rw [ht _ hq5];simp) h1,rfl⟩
theorem ch_end{j d m:Nat}{x:Tr}{r:List Tk}(hm:j+m<=5)(h:∀ t r',r=t :: r'->∀ i,j<=i->i < 5->onS i t=false):Ch num j d m x r (.ok [x] r):=
 (q2O m 0 V0 hm Va).2 rfl
end
section
variable {num : Bs -> Nat × Nat}
theorem q0F{b:Bs}{t:Tk}{r:List Tk}(h:ak b t=true)(f:List Tk->OO):must b (t :: r) f=f r:=if_pos h
theorem q1p{b:Bs}{t:Tk}{r:List Tk}(h:ak b t=false)(f:List Tk->OO):must b (t :: r) f=some (.bad t.at_ 100):=if_neg (by rw [h];decide)
theorem q1q{t:Tk}{r:List Tk}(h:t.k = 1)(f:Bs->List Tk->OO):bE (t :: r) f=f t.s r:=if_pos h
theorem q37{t:Tk}{r:List Tk}(h:t.k≠1)(f:Bs->List Tk->OO):bE (t :: r) f=some (.bad t.at_ 100):=if_neg h
theorem q0s{t:Tk}(h:t.k<=2)(b:Bs):ak b t=false:=by unfold ak;simp;omega
theorem q0v{K K':Nat->OO}{o:Out}(h:Ev K o)(he:∀ f,K' f=K f):Ev K' o:=by
 obtain ⟨g,hg⟩:=h;exact ⟨g,fun f hf=>(he f).trans (hg f hf)⟩
theorem l5(f d:Nat)(t:Tk)(r:List Tk):pF num (f+1) (.aI 5) d (t :: r)=if 60 < d then wrong (t :: r) 150
    else if (ak [126] t || ak [45] t)=true then bnd (pF num f (.aI 5) (d+1) r) fun xs r'=>some (.ok [.mk 2 t.at_ t.s 0 [] xs] r')
    else if t.k = 2 then (if (num t.s).2 = 0 then some (.ok [.mk 0 t.at_ [] (num t.s).1 [] []] r) else wrong (t :: r) (if (num t.s).2 = 4 then 100 else 150))
    else if ak [40] t=true then bnd (pF num f (.aI 0) (d+1) r) fun xs r'=>must [41] r' fun r''=>some (.ok (xs.map (·.put t.at_)) r'')
    else bE (t :: r) fun s r=>match r with
     | []=>some (.ok [.mk 1 t.at_ s 0 [] []] [])
     | u :: r'=>if ak [40] u=true then bnd (pF num f (.aI 0) (d+1) r') fun xs r''=>bnd (pF num f (.args xs) (d+1) r'') fun ys r3=>must [41] r3 fun r4=>some (.ok [.mk 5 t.at_ s 0 [] ys] r4)
      else some (.ok [.mk 1 t.at_ s 0 [] []] (u :: r')):=rfl
theorem q3y{d:Nat}{t:Tk}{r:List Tk}(hd:60 < d):Rd num (.aI 5) d (t :: r) (.bad t.at_ 150):=q0j (q0a _) fun f=>by rw [l5,if_pos hd];rfl
theorem q6c{n m d a e:Nat}{l:List Tk}(h:Rd num (.aI (n+m)) d l (.bad a e))(hn:n+m<=5):Rd num (.aI n) d l (.bad a e):=by
 induction m with
 | zero=>exact h
 | succ m ih=>exact ih (q2N V0 h) V0
theorem q6d{d:Nat}{t:Tk}{r:List Tk}(hd:60 < d):Rd num (.aI 0) d (t :: r) (.bad t.at_ 150):=q6c (m:=5) (q3y hd) V0
theorem r_un{d:Nat}{t:Tk}{r r':List Tk}{xs:List Tr}(hd:d<=60)(ht:(ak [126] t || ak [45] t)=true)(h:Rd num (.aI 5) (d+1) r (.ok xs r')):Rd num (.aI 5) d (t :: r) (.ok [.mk 2 t.at_ t.s 0 [] xs] r'):=
 q0j (q0x (K:=fun _ xs r'=>some (.ok [.mk 2 t.at_ t.s 0 [] xs] r')) h (q0a _)) fun f=>by rw [l5,if_neg V0,if_pos ht]
theorem q56{d a e:Nat}{t:Tk}{r:List Tk}(hd:d<=60)(ht:(ak [126] t || ak [45] t)=true)(h:Rd num (.aI 5) (d+1) r (.bad a e)):Rd num (.aI 5) d (t :: r) (.bad a e):=
 q0j (q0X (K:=fun _ xs r'=>some (.ok [.mk 2 t.at_ t.s 0 [] xs] r')) h) fun f=>by rw [l5,if_neg V0,if_pos ht]
theorem r_num{d:Nat}{t:Tk}{r:List Tk}(hd:d<=60)(ht:t.k = 2)(h:(num t.s).2 = 0):Rd num (.aI 5) d (t :: r) (.ok [.mk 0 t.at_ [] (num t.s).1 [] []] r):=
 q0j (q0a _) fun f=>by rw [l5,if_neg V0,if_neg V1L,if_pos ht,if_pos h]
theorem q2P{d:Nat}{t:Tk}{r:List Tk}(hd:d<=60)(ht:t.k = 2)(h:(num t.s).2≠0):Rd num (.aI 5) d (t :: r) (.bad t.at_ (if (num t.s).2 = 4 then 100 else 150)):=
 q0j (q0a _) fun f=>by rw [l5,if_neg V0,if_neg V1L,if_pos ht,if_neg h];rfl
theorem par_k{t:Tk}(ht:ak [40] t=true):(ak [126] t || ak [45] t)=false/\t.k≠2:=by
 unfold ak at ht ⊢;simp only [Bool.and_eq_true,decide_eq_true_eq] at ht;have:=eq_of_beq ht.2;rw [this];exact ⟨V3,V0⟩
theorem r_par{d:Nat}{t u:Tk}{r r':List Tk}{xs:List Tr}(hd:d<=60)(ht:ak [40] t=true)(h:Rd num (.aI 0) (d+1) r (.ok xs (u :: r')))(hu:ak [41] u=true):Rd num (.aI 5) d (t :: r) (.ok (xs.map (·.put t.at_)) r'):=
 q0j (q0x (K:=fun _ xs r'=>must [41] r' fun r''=>some (.ok (xs.map (·.put t.at_)) r'')) h (q0v (q0a _) fun f=>q0F hu _)) fun f=>by
  exact V1q
theorem q42{d:Nat}{t u:Tk}{r r':List Tk}{xs:List Tr}(hd:d<=60)(ht:ak [40] t=true)(h:Rd num (.aI 0) (d+1) r (.ok xs (u :: r')))(hu:ak [41] u=false):Rd num (.aI 5) d (t :: r) (.bad u.at_ 100):=
 q0j (q0x (K:=fun _ xs r'=>must [41] r' fun r''=>some (.ok (xs.map (·.put t.at_)) r'')) h (q0v (q0a _) fun f=>q1p hu _)) fun f=>by
  exact V1q
theorem q43{d a e:Nat}{t:Tk}{r:List Tk}(hd:d<=60)(ht:ak [40] t=true)(h:Rd num (.aI 0) (d+1) r (.bad a e)):Rd num (.aI 5) d (t :: r) (.bad a e):=
 q0j (q0X (K:=fun _ xs r'=>must [41] r' fun r''=>some (.ok (xs.map (·.put t.at_)) r'')) h) fun f=>by
  exact V1q
theorem q44{d:Nat}{t:Tk}{r:List Tk}(hd:d<=60)(h1:(ak [126] t || ak [45] t)=false)(h2:t.k≠2)(h3:ak [40] t=false)(h4:t.k≠1):Rd num (.aI 5) d (t :: r) (.bad t.at_ 100):=
 q0j (q0a _) fun f=>by rw [l5,if_neg V0,if_neg (by rw [h1];decide),if_neg h2,if_neg (by rw [h3];decide),q37 h4]
theorem nm5(f d:Nat)(t:Tk)(r:List Tk)(hd:d<=60)(ht:t.k = 1):pF num (f+1) (.aI 5) d (t :: r)=match r with
     | []=>some (.ok [.mk 1 t.at_ t.s 0 [] []] [])
     | u :: r'=>if ak [40] u=true then bnd (pF num f (.aI 0) (d+1) r') fun xs r''=>bnd (pF num f (.args xs) (d+1) r'') fun ys r3=>must [41] r3 fun r4=>some (.ok [.mk 5 t.at_ t.s 0 [] ys] r4)
      else some (.ok [.mk 1 t.at_ t.s 0 [] []] (u :: r')):=by
 rw [l5,if_neg V0,if_neg V1L,if_neg V0,if_neg (by rw [q0s V0];decide),q1q ht]
theorem q8t{d:Nat}{t u:Tk}{r:List Tk}(hd:d<=60)(ht:t.k = 1)(hu:ak [40] u=false):Rd num (.aI 5) d (t :: u :: r) (.ok [.mk 1 t.at_ t.s 0 [] []] (u :: r)):=
 q0j (q0a _) fun f=>by rw [nm5 _ _ _ _ hd ht];exact if_neg (by rw [hu];decide)
def ArK(num:Bs->Nat×Nat)(f d a:Nat)(s:Bs)(r:List Tk):OO:=bnd (pF num f (.aI 0) (d+1) r) fun xs r''=>bnd (pF num f (.args xs) (d+1) r'') fun ys r3=>must [41] r3 fun r4=>some (.ok [.mk 5 a s 0 [] ys] r4)
theorem q6e{d:Nat}{t u:Tk}{r:List Tk}{o:Out}(hd:d<=60)(ht:t.k = 1)(hu:ak [40] u=true)(h:Ev (fun f=>ArK num f d t.at_ t.s r) o):Rd num (.aI 5) d (t :: u :: r) o:=
 q0j h fun f=>by rw [nm5 _ _ _ _ hd ht];exact if_pos hu
theorem q1j{d:Nat}{t:Tk}{r:List Tk}{xs:List Tr}(ht:ak [44] t=false):Rd num (.args xs) d (t :: r) (.ok xs (t :: r)):=
 q0j (q0a _) fun f=>by
  exact V1x
theorem q8u{d:Nat}{t:Tk}{r r':List Tk}{xs ys:List Tr}{o:Out}(ht:ak [44] t=true)(h:Rd num (.aI 0) d r (.ok ys r'))(h2:Rd num (.args (xs ++ ys)) d r' o):Rd num (.args xs) d (t :: r) o:=
 q0j (q0x (K:=fun f ys r'=>pF num f (.args (xs ++ ys)) d r') h h2) fun f=>by
  exact V0Q
theorem q38{d a e:Nat}{t:Tk}{r:List Tk}{xs:List Tr}(ht:ak [44] t=true)(h:Rd num (.aI 0) d r (.bad a e)):Rd num (.args xs) d (t :: r) (.bad a e):=
 q0j (q0X (K:=fun f ys r'=>pF num f (.args (xs ++ ys)) d r') h) fun f=>by
  exact V0Q
def SetK(num:Bs->Nat×Nat)(f k a d:Nat)(l:List Tk):OO:=bE l fun s r1=>must [61] r1 fun r2=>pF num f (.fin k a s []) d r2
theorem r_fin{k a d:Nat}{s:Bs}{ps:List Bs}{l r:List Tk}{t:Tk}{xs:List Tr}(h:Rd num (.aI 0) d l (.ok xs (t :: r)))(ht:ak [59] t=true):Rd num (.fin k a s ps) d l (.ok [.mk k a s 0 ps xs] r):=
 q0j (q0x (K:=fun _ xs r=>must [59] r fun r'=>some (.ok [.mk k a s 0 ps xs] r')) h (q0v (q0a _) fun _=>q0F ht _)) fun f=>by conv=>lhs;unfold pF
theorem q45{k a d:Nat}{s:Bs}{ps:List Bs}{l r:List Tk}{t:Tk}{xs:List Tr}(h:Rd num (.aI 0) d l (.ok xs (t :: r)))(ht:ak [59] t=false):Rd num (.fin k a s ps) d l (.bad t.at_ 100):=
 q0j (q0x (K:=fun _ xs r=>must [59] r fun r'=>some (.ok [.mk k a s 0 ps xs] r')) h (q0v (q0a _) fun _=>q1p ht _)) fun f=>by conv=>lhs;unfold pF
theorem q46{k a d p e:Nat}{s:Bs}{ps:List Bs}{l:List Tk}(h:Rd num (.aI 0) d l (.bad p e)):Rd num (.fin k a s ps) d l (.bad p e):=
 q0j (q0X (K:=fun _ xs r=>must [59] r fun r'=>some (.ok [.mk k a s 0 ps xs] r')) h) fun f=>by conv=>lhs;unfold pF
theorem in_(f d:Nat)(t:Tk)(r:List Tk):pF num (f+1) .inner d (t :: r)=if 60 < d then wrong (t :: r) 150
   else if ak [102,111,114] t=true then bE r fun s r1=>must [105,110] r1 fun r2=>bnd (pF num f (.aI 0) d r2) fun xs r3=>must [46,46] r3 fun r4=>bnd (pF num f (.aI 0) d r4) fun ys r5=>must [123] r5 fun r6=>
    bnd (pF num f (.aM (xs ++ ys)) d r6) fun zs r7=>some (.ok [.mk 11 t.at_ s 0 [] zs] r7)
   else SetK num f 10 t.at_ d (t :: r):=rfl
theorem q6f{d:Nat}{t:Tk}{r:List Tk}(hd:60 < d):Rd num .inner d (t :: r) (.bad t.at_ 150):=q0j (q0a _) fun f=>by rw [in_,if_pos hd];rfl
theorem r_let{d:Nat}{t:Tk}{r:List Tk}{o:Out}(hd:d<=60)(ht:ak [102,111,114] t=false)(h:Ev (fun f=>SetK num f 10 t.at_ d (t :: r)) o):Rd num .inner d (t :: r) o:=
 q0j h fun f=>by rw [in_,if_neg V0,if_neg (by rw [ht];decide)]
def ForK(num:Bs->Nat×Nat)(f a d:Nat)(r:List Tk):OO:=bE r fun s r1=>must [105,110] r1 fun r2=>bnd (pF num f (.aI 0) d r2) fun xs r3=>must [46,46] r3 fun r4=>bnd (pF num f (.aI 0) d r4) fun ys r5=>must [123] r5 fun r6=>
    bnd (pF num f (.aM (xs ++ ys)) d r6) fun zs r7=>some (.ok [.mk 11 a s 0 [] zs] r7)
theorem r_for{d:Nat}{t:Tk}{r:List Tk}{o:Out}(hd:d<=60)(ht:ak [102,111,114] t=true)(h:Ev (fun f=>ForK num f t.at_ d r) o):Rd num .inner d (t :: r) o:=
 q0j h fun f=>by rw [in_,if_neg V0,if_pos ht];rfl
theorem q2m{d:Nat}{t:Tk}{r:List Tk}{zs:List Tr}(ht:ak [125] t=true):Rd num (.aM zs) d (t :: r) (.ok zs r):=
 q0j (q0a _) fun f=>by
  exact V0Q
theorem q7E{d:Nat}{t:Tk}{r r':List Tk}{zs xs:List Tr}{o:Out}(ht:ak [125] t=false)(h:Rd num .inner (d+1) (t :: r) (.ok xs r'))(h2:Rd num (.aM (zs ++ xs)) d r' o):Rd num (.aM zs) d (t :: r) o:=
 q0j (q0x (K:=fun f xs r'=>pF num f (.aM (zs ++ xs)) d r') h h2) fun f=>by
  exact V1x
theorem q2n{d a e:Nat}{t:Tk}{r:List Tk}{zs:List Tr}(ht:ak [125] t=false)(h:Rd num .inner (d+1) (t :: r) (.bad a e)):Rd num (.aM zs) d (t :: r) (.bad a e):=
 q0j (q0X (K:=fun f xs r'=>pF num f (.aM (zs ++ xs)) d r') h) fun f=>by
  exact V1x
def InK(k a:Nat)(r:List Tk):OO:=aC [] r fun ps r1=>must [59] r1 fun r2=>some (.ok [.mk k a [] 0 ps []] r2)
def FnK(num:Bs->Nat×Nat)(f a d:Nat)(r:List Tk):OO:=bE r fun s r1=>must [40] r1 fun r2=>aC [] r2 fun ps r3=>must [41] r3 fun r4=>must [61] r4 fun r5=>pF num f (.fin 12 a s ps) d r5
theorem st_(f d:Nat)(t:Tk)(r:List Tk):pF num (f+1) .stmt d (t :: r)=if ak [115,101,99,114,101,116] t=true then InK 6 t.at_ r
   else if ak [112,117,98,108,105,99] t=true then InK 7 t.at_ r
   else if ak [111,117,116] t=true then SetK num f 8 t.at_ d r
   else if ak [115,104,111,119] t=true then SetK num f 9 t.at_ d r
   else if ak [102,110] t=true then FnK num f t.at_ d r
   else pF num f .inner 0 (t :: r):=rfl
theorem q2Q{d:Nat}{t:Tk}{r:List Tk}{xs:List Tr}(ht:t.k = 0):Rd num (.stmts xs) d (t :: r) (.ok xs (t :: r)):=
 q0j (q0a _) fun f=>by
  exact V0Q
theorem q6g{d:Nat}{t:Tk}{r r':List Tk}{xs ys:List Tr}{o:Out}(ht:t.k≠0)(h:Rd num .stmt 0 (t :: r) (.ok ys r'))(h2:Rd num (.stmts (xs ++ ys)) d r' o):Rd num (.stmts xs) d (t :: r) o:=
 q0j (q0x (K:=fun f ys r'=>pF num f (.stmts (xs ++ ys)) d r') h h2) fun f=>by
  conv=>lhs;unfold pF
  simp only;rw [if_neg ht]
theorem q2R{d a e:Nat}{t:Tk}{r:List Tk}{xs:List Tr}(ht:t.k≠0)(h:Rd num .stmt 0 (t :: r) (.bad a e)):Rd num (.stmts xs) d (t :: r) (.bad a e):=
 q0j (q0X (K:=fun f ys r'=>pF num f (.stmts (xs ++ ys)) d r') h) fun f=>by
  conv=>lhs;unfold pF
  simp only;rw [if_neg ht]
end
end Pa
namespace Pa
open Go Go.ChangeShapes Go.WideShapes Go.ChangeAt Go.RowKit Lx Args
section
attribute [local go_sem] bH bI bJ
theorem is_(w:World)(bp d:Nat)(t:Tk)(r:List Tk)(b:Bs)(hp:PS w bp (t :: r) d) :
  Calls Tryz.prog 158 #[.pointer (some ⟨bp,0,none⟩),.string ⟨b.toArray⟩] w fun e w'=>e = .returned (.bool (t.s==b))/\Below w.heap.size w w':=by
 have HN:=Hi (next w bp d t r hp);clear hp;go_enter Tryz.func158,Tryz.ntmps158;go_wp2_with fail
 refine HN.out.mono ?_;rintro e w1 ⟨rfl,hb1⟩;have HB1:=Hi hb1;clear hb1;go_wp2_with fail
 go_ret;exact ⟨rfl,HB1.out⟩
theorem take(w:World)(bp d:Nat)(t:Tk)(r:List Tk)(hp:PS w bp (t :: r) d)(hr:r≠[]) :
  Calls Tryz.prog 129 #[.pointer (some ⟨bp,0,none⟩)] w fun e w'=>e = .returned (.agg #[.int .i64 (t.k:Int),.string ⟨t.s.toArray⟩,.int .i64 (t.at_:Int)])/\PS w' bp r d/\UB bp w w':=by
 obtain ⟨w0,hw0,hb0,hB⟩:=aS w #[.int .i64 0,.string ⟨#[]⟩,.int .i64 0] 63;have hlt:=hp.lt;have HN:=Hi (next w0 bp d t r (hp.below hb0));have HP:=Hi (hp.below hb0);have HB0:=Hi hb0;have HB:=Hi hB;have HW:=Hi hw0;clear hb0 hB hp hw0;go_enter Tryz.func129,Tryz.ntmps129;go_wp2_with fail
 rw [HW.out];refine HN.out.mono ?_;rintro e w1 ⟨rfl,hb1⟩;obtain ⟨b,o,c,hn,hc1,hc2,f0,f1,f2,f3,f4,f5,f6⟩:=(HP.out.below hb1).head;have Be:=Hi (HP.out.below hb1);have hlt1:=(HP.out.below hb1).lt;have hlt0:=HB.out.lt;have h1:Aa w1 w.heap.size 63 #[.int .i64 0,.string ⟨#[]⟩,.int .i64 0]:=HB.out.below hb1 hlt0;have HB1:=Hi (HB0.out.trans (hb1.mono HB0.out.size));have H1:=Hi h1;have hrl:r.length≠0:=fun h=>hr (List.length_eq_zero_iff.1 h)
 have hne:w.heap.size≠bp:=V0;have hlg:w.heap.size < w1.heap.size:=h1.lt;obtain ⟨e0,e1,e2,z0,z1,z2⟩:=Aa.c3 h1;have HF0:=Hi f0;clear h1 hb1 hr f1 f3 f4 f5 f6;go_wp2_with fail
 refine bodyPost_ret (resTk rfl rfl ((Aa.put3 (H1.out.far hne _) _ _ _).alloc _) rfl) rfl ⟨rfl,?_,?_⟩
 ·exact (PS.take Be.out HF0.out).far ((((((Upd.refl (fun b=>bp < b) _).setCell (fun _=>hlt) _).setCell (fun _=>hlt) _).setCell (fun _=>hlt) _).alloc _)) (fun _ h=>h)
 ·have hg:∀ q:Nat,w.heap.size < w.heap.size->q=bp:=fun q h=>absurd h (Nat.lt_irrefl _)
  exact ((((((q01 (bp:=bp) HB1.out).setCell (fun _=>rfl) _).setCell (hg _) _).setCell (hg _) _).setCell (hg _) _).alloc _)
abbrev panV(a er:Nat):Ending:=.panicked [{ v:=.iface 158 (.agg #[.int .i64 (a:Int),.int .i64 (er:Int)]),recovered:=false }]
theorem must_no(w:World)(bp d:Nat)(t:Tk)(r:List Tk)(b:Bs)(hp:PS w bp (t :: r) d)(hb:(t.s==b)=false) :
  Calls Tryz.prog 173 #[.pointer (some ⟨bp,0,none⟩),.string ⟨b.toArray⟩] w fun e w'=>e=panV t.at_ 100/\UB bp w w':=by
 obtain ⟨w0,hw0,hb0,-⟩:=aS w #[.int .i64 0,.string ⟨#[]⟩,.int .i64 0] 63;have hI:=is_ w0 bp d t r b (hp.below hb0);rw [hb] at hI;have HI:=Hi hI;have HP:=Hi (hp.below hb0);have HB0:=Hi hb0;have HW:=Hi hw0;clear hb0 hp hw0 hI hb;go_enter Tryz.func173,Tryz.ntmps173;go_wp2_with fail
 rw [HW.out];refine HI.out.mono ?_;rintro e w1 ⟨rfl,hb1⟩;have HH:=Hi (here w1 bp d t r 100 (HP.out.below hb1));have HB1:=Hi (HB0.out.trans (hb1.mono HB0.out.size));clear hb1;go_wp2_with fail
 refine HH.out.mono ?_;rintro e w2 ⟨rfl,hb2⟩;have HB2:=Hi (HB1.out.trans (hb2.mono HB1.out.size));clear hb2;go_wp2_with fail
 exact ⟨rfl,rfl,q01 HB2.out⟩
end
section
attribute [local go_sem] bH bI bJ
theorem must_yes(w:World)(bp d:Nat)(t:Tk)(r:List Tk)(b:Bs)(hp:PS w bp (t :: r) d)(hb:(t.s==b)=true)(hr:r≠[]) :
  Calls Tryz.prog 173 #[.pointer (some ⟨bp,0,none⟩),.string ⟨b.toArray⟩] w fun e w'=>e = .returned (.agg #[.int .i64 (t.k:Int),.string ⟨t.s.toArray⟩,.int .i64 (t.at_:Int)])/\PS w' bp r d/\UB bp w w':=by
 obtain ⟨w0,hw0,hb0,hB⟩:=aS w #[.int .i64 0,.string ⟨#[]⟩,.int .i64 0] 63;have hlt:=hp.lt;have hI:=is_ w0 bp d t r b (hp.below hb0);rw [hb] at hI;have HI:=Hi hI;have HP:=Hi (hp.below hb0);have HB0:=Hi hb0;have HB:=Hi hB;have HW:=Hi hw0;have HR:=Hi hr;clear hb0 hp hw0 hI hb hB hr;go_enter Tryz.func173,Tryz.ntmps173;go_wp2_with fail
 rw [HW.out];refine HI.out.mono ?_;rintro e w1 ⟨rfl,hb1⟩;have HT:=Hi (take w1 bp d t r (HP.out.below hb1) HR.out);have HB1:=Hi (HB.out.below hb1 HB.out.lt);have Aj:=Hi ((q01 (bp:=bp) HB0.out).trans (q01 (bp:=bp) hb1));clear hb1;go_wp2_with fail
 refine HT.out.mono ?_;rintro e w2 ⟨rfl,hp2,hu2⟩;have h2:Aa w2 w.heap.size 63 #[.int .i64 0,.string ⟨#[]⟩,.int .i64 0]:=HB1.out.upd hu2 V0;obtain ⟨e0,e1,e2,z0,z1,z2⟩:=Aa.c3 h2;have H2:=Hi h2;have Ar:=Hi hp2;have Ai:=Hi (Aj.out.trans hu2);clear h2 hp2 hu2;go_wp2_with fail
 refine bodyPost_ret (resTk rfl rfl (Aa.put3 H2.out _ _ _) rfl) rfl ⟨rfl,?_,?_⟩
 ·exact Ar.out.far ((((Upd.refl (fun b=>bp < b) _).setCell (fun _=>hlt) _).setCell (fun _=>hlt) _).setCell (fun _=>hlt) _) (fun _ h=>h)
 ·have hg:∀ q:Nat,w.heap.size < w.heap.size->q=bp:=fun q h=>absurd h (Nat.lt_irrefl _)
  exact (((Ai.out.setCell (hg _) _).setCell (hg _) _).setCell (hg _) _)
theorem name_no(w:World)(bp d:Nat)(t:Tk)(r:List Tk)(hp:PS w bp (t :: r) d)(hk:t.k≠1) :
  Calls Tryz.prog 174 #[.pointer (some ⟨bp,0,none⟩)] w fun e w'=>e=panV t.at_ 100/\UB bp w w':=by
 have HN:=Hi (next w bp d t r hp);have HP:=Hi hp;have hq:((t.k:Int) != 1)=true:=V4;clear hp hk;go_enter Tryz.func174,Tryz.ntmps174;go_wp2_with fail
 refine HN.out.mono ?_;rintro e w1 ⟨rfl,hb1⟩;have HH:=Hi (here w1 bp d t r 100 (HP.out.below hb1));have HB1:=Hi hb1;clear hb1;go_wp2_with fail
 refine HH.out.mono ?_;rintro e w2 ⟨rfl,hb2⟩;have HB2:=Hi (HB1.out.trans (hb2.mono HB1.out.size));clear hb2;go_wp2_with fail
 exact ⟨rfl,rfl,q01 HB2.out⟩
theorem name_yes(w:World)(bp d:Nat)(t:Tk)(r:List Tk)(hp:PS w bp (t :: r) d)(hk:t.k = 1)(hr:r≠[]) :
  Calls Tryz.prog 174 #[.pointer (some ⟨bp,0,none⟩)] w fun e w'=>e = .returned (.string ⟨t.s.toArray⟩)/\PS w' bp r d/\UB bp w w':=by
 have hn:=next w bp d t r hp;rw [hk] at hn;have HN:=Hi hn;have HP:=Hi hp;have HR:=Hi hr;clear hp hk hn hr;go_enter Tryz.func174,Tryz.ntmps174;go_wp2_with fail
 refine HN.out.mono ?_;rintro e w1 ⟨rfl,hb1⟩;have HT:=Hi (take w1 bp d t r (HP.out.below hb1) HR.out);have Aj:=Hi (q01 (bp:=bp) hb1);clear hb1;go_wp2_with fail
 refine HT.out.mono ?_;rintro e w2 ⟨rfl,hp2,hu2⟩;have Ar:=Hi hp2;have Ai:=Hi (Aj.out.trans hu2);clear hp2 hu2;go_wp2_with fail
 go_ret;exact ⟨rfl,Ar.out,Ai.out⟩
theorem node(w:World)(k a:Nat)(s:Bs)(A:Option Addr)(la cA:Nat) :
  Calls Tryz.prog 125 #[.int .i64 (k:Int),.string ⟨s.toArray⟩,.int .i64 (a:Int),.slice A la cA] w fun e w'=>
   e = .returned (.agg #[.int .i64 (k:Int),.string ⟨s.toArray⟩,.int .u32 0,.int .i64 (a:Int),.slice A la cA,.slice none 0 0])/\Below w.heap.size w w':=by
 go_enter Tryz.func125,Tryz.ntmps125;go_wp2_with fail
 refine bodyPost_ret (aH rfl rfl (Aa.new _ _ _) rfl) rfl ⟨rfl,?_⟩;exact (Below.refl _ _).alloc (Nat.le_refl _) _
theorem sign(w:World)(s:Bs) :
  Calls Tryz.prog 128 #[.string ⟨s.toArray⟩] w fun e w'=>e = .returned (.tuple #[.int .i64 (kindT s:Int),.int .i64 (levT s:Int)])/\w=w':=by
 by_cases h0:s=[124]
 ·subst h0;exact Vy
 by_cases h1:s=[94]
 ·subst h1;exact Vy
 by_cases h2:s=[38]
 ·subst h2;exact Vy
 by_cases h3:s=[60,60]
 ·subst h3;exact Vy
 by_cases h4:s=[62,62]
 ·subst h4;exact Vy
 by_cases h5:s=[60,60,60]
 ·subst h5;exact Vy
 by_cases h6:s=[43]
 ·subst h6;exact Vy
 by_cases h7:s=[45]
 ·subst h7;exact Vy
 have hz:levT s = 0:=by simp [levT,h0,h1,h2,h3,h4,h5,h6,h7]
 have hk:kindT s = 0:=by simp [kindT,hz]
 rw [hz,hk];have g0:(s==[124])=false:=by simpa using h0
 have g1:(s==[94])=false:=VT;have g2:(s==[38])=false:=by simpa using h2
 have g3:(s==[60,60])=false:=by simpa using h3
 have g4:(s==[62,62])=false:=by simpa using h4
 have g5:(s==[60,60,60])=false:=by simpa using h5
 have g6:(s==[43])=false:=by simpa using h6
 have g7:(s==[45])=false:=by simpa using h7
 clear hz hk;go_enter Tryz.func128,Tryz.ntmps128;go_wp2_with fail
 go_ret2
 exact ⟨rfl,rfl⟩
end
end Pa
namespace Num
open Go.ChangeShapes Go.WideShapes Go.ChangeAt Go.RowKit
def dvN(c:Nat):Nat:=if 48<=c/\c<=57 then c - 48 else if 97<=c/\c<=102 then c - 87 else if 65<=c/\c<=70 then c - 55 else 16
theorem q57(c:Nat):dvN c<=16:=by unfold dvN;split <;> (try split) <;> (try split) <;> omega
theorem digitC(c:Nat)(hc:c < 256)(w:World):Calls Tryz.prog 214 #[.int .u8 c] w fun e w'=>e = .returned (.int .u64 (dvN c:Nat))/\w=w':=by
 by_cases h1:48<=c/\c<=57
 ·have hd:dvN c=c - 48:=by simp [dvN,h1]
  obtain ⟨a,b⟩:=h1;have HD:=Hi hd;clear hd;exact V1l
 by_cases h2:97<=c/\c<=102
 ·have hd:dvN c=c - 87:=by simp [dvN,h1,h2]
  obtain ⟨a,b⟩:=h2;have HD:=Hi hd;clear hd h1;have n1:¬ c<=57:=V0;exact V1l
 by_cases h3:65<=c/\c<=70
 ·have hd:dvN c=c - 55:=by simp [dvN,h1,h2,h3]
  obtain ⟨a,b⟩:=h3;have HD:=Hi hd;clear hd h1 h2;have n1:¬ c<=57:=V0;have n2:¬ 97<=c:=V0;exact V1l
 have hd:dvN c = 16:=by simp [dvN,h1,h2,h3]
 have HD:=Hi hd;clear hd;have hr:c < 48\/(57 < c/\c < 65)\/(70 < c/\c < 97)\/102 < c:=V0;clear h1 h2 h3;rcases hr with r | ⟨r1,r2⟩ | ⟨r1,r2⟩ | r
 all_goals
  go_enter Tryz.func214,Tryz.ntmps214
  go_wp2
  go_ret;exact ⟨by rw [HD.out];rfl,rfl⟩
def nrun(base:Nat):List UInt8->Nat->Option Nat
 | [],n=>some n
 | c :: l,n=>if dvN c.toNat < base then nrun base l (min (n * base+dvN c.toNat) 4294967296) else none
def numR(base:Nat)(L:List UInt8):Nat×Nat:=
 if L=[] then (0,4) else match nrun base L 0 with
  | none=>(0,4)
  | some n=>if n = 4294967296 then (0,2) else (n,0)
def resN(r:Nat×Nat):Value:=.tuple #[.int .u32 (r.1:Nat),.int .i64 (r.2:Nat)]
end Num
end Go.Proofs.YtcgibpdjfgjldaaGreatDoor
namespace Go.Proofs
open Go.Shelf Go.Proofs.YtcgibpdjfgjldaaGreatDoor
section
def Tryz.lays161_ren:Go.Shelf.Ren:=⟨fun | 161=>176 | 231=>195 | 227=>196 | 233=>197 | 235=>198 | 228=>207 | 197=>208 | 151=>209 | 260=>215 | 152=>216 | 137=>222 | 119=>223 | 224=>219 | 225=>218 | 217=>217 | 266=>224 | n=>n,fun | 9=>9 | 4=>4 | 3=>3 | 5=>5 | 117=>236 | 116=>235 | 0=>0 | 124=>239 | 105=>242 | 21=>21 | 119=>252 | 46=>208 | 139=>255 | 138=>254 | n=>n,fun | 3=>1 | 4=>2 | n=>n⟩
theorem Tryz.lays161:Go.Proofs.Lays.n161 Tryz.prog Tryz.lays161_ren:={
 mixed:=V1
 f119:=Tryz.func223.trans (congrArg some V1)
 f137:=Tryz.func222.trans (congrArg some V1)
 f151:=Tryz.func209.trans (congrArg some V1)
 f152:=Tryz.func216.trans (congrArg some V1)
 f161:=Tryz.func176.trans (congrArg some V1)
 f197:=Tryz.func208.trans (congrArg some V1)
 f217:=Tryz.func217.trans (congrArg some V1)
 f224:=Tryz.func219.trans (congrArg some V1)
 f225:=Tryz.func218.trans (congrArg some V1)
 f227:=Tryz.func196.trans (congrArg some V1)
 f228:=Tryz.func207.trans (congrArg some V1)
 f231:=Tryz.func195.trans (congrArg some V1)
 f233:=Tryz.func197.trans (congrArg some V1)
 f235:=Tryz.func198.trans (congrArg some V1)
 f260:=Tryz.func215.trans (congrArg some V1)
 f266:=Tryz.func224.trans (congrArg some V1)
 t0:=Tryz.underlying0
 a0:=Tryz.isAgg0
 z0:=Tryz.sizeOf0
 v0:=Tryz.zeroValue0
 t3:=Tryz.underlying3
 a3:=Tryz.isAgg3
 z3:=Tryz.sizeOf3
 v3:=Tryz.zeroValue3
 t4:=Tryz.underlying4
 a4:=Tryz.isAgg4
 z4:=Tryz.sizeOf4
 v4:=Tryz.zeroValue4
 t5:=Tryz.underlying5
 a5:=Tryz.isAgg5
 z5:=Tryz.sizeOf5
 v5:=Tryz.zeroValue5
 t9:=Tryz.underlying9
 a9:=Tryz.isAgg9
 z9:=Tryz.sizeOf9
 v9:=Tryz.zeroValue9
 t21:=Tryz.underlying21
 a21:=Tryz.isAgg21
 z21:=Tryz.sizeOf21
 v21:=Tryz.zeroValue21
 t46:=Tryz.underlying208
 a46:=Tryz.isAgg208
 z46:=Tryz.sizeOf208
 v46:=Tryz.zeroValue208
 t105:=Tryz.underlying242
 a105:=Tryz.isAgg242
 z105:=Tryz.sizeOf242
 v105:=Tryz.zeroValue242
 t116:=Tryz.underlying235
 a116:=Tryz.isAgg235
 z116:=Tryz.sizeOf235
 t117:=Tryz.underlying236
 a117:=Tryz.isAgg236
 z117:=Tryz.sizeOf236
 v117:=Tryz.zeroValue236
 t119:=Tryz.underlying252
 a119:=Tryz.isAgg252
 z119:=Tryz.sizeOf252
 t124:=Tryz.underlying239
 a124:=Tryz.isAgg239
 z124:=Tryz.sizeOf239
 v124:=Tryz.zeroValue239
 t138:=Tryz.underlying254
 a138:=Tryz.isAgg254
 z138:=Tryz.sizeOf254
 v138:=Tryz.zeroValue254
 t139:=Tryz.underlying255
 a139:=Tryz.isAgg255
 z139:=Tryz.sizeOf255
 v139:=Tryz.zeroValue255
 g3:=V1
 g4:=by kernel_rfl }
open Go.RowKit in
def Tryz.lays103_ren:Go.Shelf.Ren:=⟨fun | 103=>213 | 210=>221 | 206=>199 | n=>n,fun | 9=>9 | 4=>4 | 24=>246 | 3=>3 | n=>n,fun | n=>n⟩
theorem Tryz.lays103:Go.Proofs.Lays.n103 Tryz.prog Tryz.lays103_ren:={
 mixed:=V1
 f103:=Tryz.func213.trans (congrArg some V1)
 f206:=Tryz.func199.trans (congrArg some V1)
 f210:=Tryz.func221.trans (congrArg some V1)
 t3:=Tryz.underlying3
 a3:=Tryz.isAgg3
 z3:=Tryz.sizeOf3
 v3:=Tryz.zeroValue3
 t4:=Tryz.underlying4
 a4:=Tryz.isAgg4
 z4:=Tryz.sizeOf4
 v4:=Tryz.zeroValue4
 t9:=Tryz.underlying9
 a9:=Tryz.isAgg9
 z9:=Tryz.sizeOf9
 v9:=Tryz.zeroValue9
 t24:=Tryz.underlying246
 a24:=Tryz.isAgg246
 z24:=Tryz.sizeOf246
 v24:=Tryz.zeroValue246 }
open Go.RowKit in
theorem Tryz.strings_CutPrefix(s p:ByteArray)(w:World) :
  Calls Tryz.prog 213 #[.string s,.string p] w fun e w'=>e = .returned (.tuple #[.string ⟨(Lib.trimPrefix s.data.toList p.data.toList).toArray⟩,.bool (Lib.hasPrefix s.data.toList p.data.toList)])/\w'=w:=Any.strings_CutPrefix Tryz.lays103 s p w
def Tryz.lays219_ren:Go.Shelf.Ren:=⟨fun | 219=>210 | 217=>217 | 225=>218 | 224=>219 | 267=>220 | 266=>224 | 314=>225 | n=>n,fun | 9=>9 | 3=>3 | 4=>4 | 5=>5 | 46=>208 | 146=>257 | 51=>22 | n=>n,fun | 1=>0 | n=>n⟩
theorem Tryz.lays219:Go.Proofs.Lays.n219 Tryz.prog Tryz.lays219_ren:={
 mixed:=V1
 f217:=Tryz.func217.trans (congrArg some V1)
 f219:=Tryz.func210.trans (congrArg some V1)
 f224:=Tryz.func219.trans (congrArg some V1)
 f225:=Tryz.func218.trans (congrArg some V1)
 f266:=Tryz.func224.trans (congrArg some V1)
 f267:=Tryz.func220.trans (congrArg some V1)
 f314:=Tryz.func225.trans (congrArg some V1)
 t3:=Tryz.underlying3
 a3:=Tryz.isAgg3
 z3:=Tryz.sizeOf3
 v3:=Tryz.zeroValue3
 t4:=Tryz.underlying4
 a4:=Tryz.isAgg4
 z4:=Tryz.sizeOf4
 v4:=Tryz.zeroValue4
 t5:=Tryz.underlying5
 a5:=Tryz.isAgg5
 z5:=Tryz.sizeOf5
 v5:=Tryz.zeroValue5
 t9:=Tryz.underlying9
 a9:=Tryz.isAgg9
 z9:=Tryz.sizeOf9
 v9:=Tryz.zeroValue9
 t46:=Tryz.underlying208
 a46:=Tryz.isAgg208
 z46:=Tryz.sizeOf208
 v46:=Tryz.zeroValue208
 t51:=Tryz.underlying22
 a51:=Tryz.isAgg22
 z51:=Tryz.sizeOf22
 v51:=Tryz.zeroValue22
 t146:=Tryz.underlying257
 a146:=Tryz.isAgg257
 z146:=Tryz.sizeOf257
 v146:=Tryz.zeroValue257
 g1:=by kernel_rfl }
open Go.RowKit Go.Lib in
theorem Tryz.stringslite_Index_one(s:ByteArray)(c:UInt8)(w:World) :
  Calls Tryz.prog 210 #[.string s,.string ⟨#[c]⟩] w fun e w'=>e = .returned (.int .i64 (Lib.indexByte s.data.toList c))/\w'=w:=Any.stringslite_Index_one Tryz.lays219 s c w
def Tryz.lays143_ren:Go.Shelf.Ren:=⟨fun | 143=>212 | 219=>210 | 217=>217 | 225=>218 | 224=>219 | 267=>220 | 266=>224 | 314=>225 | n=>n,fun | 9=>9 | 3=>3 | 4=>4 | 5=>5 | 46=>208 | 146=>257 | 51=>22 | n=>n,fun | 1=>0 | n=>n⟩
theorem Tryz.lays143:Go.Proofs.Lays.n143 Tryz.prog Tryz.lays143_ren:={
 mixed:=V1
 f143:=Tryz.func212.trans (congrArg some V1)
 f217:=Tryz.func217.trans (congrArg some V1)
 f219:=Tryz.func210.trans (congrArg some V1)
 f224:=Tryz.func219.trans (congrArg some V1)
 f225:=Tryz.func218.trans (congrArg some V1)
 f266:=Tryz.func224.trans (congrArg some V1)
 f267:=Tryz.func220.trans (congrArg some V1)
 f314:=Tryz.func225.trans (congrArg some V1)
 t3:=Tryz.underlying3
 a3:=Tryz.isAgg3
 z3:=Tryz.sizeOf3
 v3:=Tryz.zeroValue3
 t4:=Tryz.underlying4
 a4:=Tryz.isAgg4
 z4:=Tryz.sizeOf4
 v4:=Tryz.zeroValue4
 t5:=Tryz.underlying5
 a5:=Tryz.isAgg5
 z5:=Tryz.sizeOf5
 v5:=Tryz.zeroValue5
 t9:=Tryz.underlying9
 a9:=Tryz.isAgg9
 z9:=Tryz.sizeOf9
 v9:=Tryz.zeroValue9
 t46:=Tryz.underlying208
 a46:=Tryz.isAgg208
 z46:=Tryz.sizeOf208
 v46:=Tryz.zeroValue208
 t51:=Tryz.underlying22
 a51:=Tryz.isAgg22
 z51:=Tryz.sizeOf22
 v51:=Tryz.zeroValue22
 t146:=Tryz.underlying257
 a146:=Tryz.isAgg257
 z146:=Tryz.sizeOf257
 v146:=Tryz.zeroValue257
 g1:=by kernel_rfl }
open Go.RowKit Go.Lib in
theorem Tryz.strings_Index_one(s:ByteArray)(c:UInt8)(w:World) :
  Calls Tryz.prog 212 #[.string s,.string ⟨#[c]⟩] w fun e w'=>e = .returned (.int .i64 (Lib.indexByte s.data.toList c))/\w'=w:=Any.strings_Index_one Tryz.lays143 s c w
def Tryz.lays99_ren:Go.Shelf.Ren:=⟨fun | 99=>177 | 206=>199 | n=>n,fun | 9=>9 | 4=>4 | 3=>3 | n=>n,fun | n=>n⟩
theorem Tryz.lays99:Go.Proofs.Lays.n99 Tryz.prog Tryz.lays99_ren:={
 mixed:=V1
 f99:=Tryz.func177.trans (congrArg some V1)
 f206:=Tryz.func199.trans (congrArg some V1)
 t3:=Tryz.underlying3
 a3:=Tryz.isAgg3
 z3:=Tryz.sizeOf3
 v3:=Tryz.zeroValue3
 t4:=Tryz.underlying4
 a4:=Tryz.isAgg4
 z4:=Tryz.sizeOf4
 v4:=Tryz.zeroValue4
 t9:=Tryz.underlying9
 a9:=Tryz.isAgg9
 z9:=Tryz.sizeOf9
 v9:=Tryz.zeroValue9 }
open Go.RowKit Go.Lib in
theorem Tryz.strings_HasPrefix(s p:ByteArray)(w:World) :
  Calls Tryz.prog 177 #[.string s,.string p] w fun e w'=>e = .returned (.bool (Lib.hasPrefix s.data.toList p.data.toList))/\w'=w:=Any.strings_HasPrefix Tryz.lays99 s p w
end
end Go.Proofs
namespace Go.Proofs.YtcgibpdjfgjldaaGreatDoor
namespace Num
open Go.ChangeShapes Go.WideShapes Go.ChangeAt Go.RowKit
theorem q20(base:Nat)(D:ByteArray)(k n:Nat)(hk:k < D.size)(hd:dvN (D[k].toNat) < base) :
  nrun base (D.data.toList.drop k) n=nrun base (D.data.toList.drop (k+1)) (min (n * base+dvN (D[k].toNat)) 4294967296):=by
 rw [List.drop_eq_getElem_cons (by simpa using hk),nrun];exact if_pos hd
theorem q21(base:Nat)(D:ByteArray)(k n:Nat)(hk:k < D.size)(hd:¬ dvN (D[k].toNat) < base):nrun base (D.data.toList.drop k) n=none:=by
 rw [List.drop_eq_getElem_cons (by simpa using hk),nrun];exact if_neg hd
theorem q7F(base:Nat)(D:ByteArray)(h:D.size = 0):numR base D.data.toList=(0,4):=by
 have:D.data.toList.length = 0:=Va;rw [List.length_eq_zero_iff.1 this];rfl
theorem q47(base:Nat)(D:ByteArray)(h:D.size≠0)(hr:nrun base D.data.toList 0=none):numR base D.data.toList=(0,4):=by
 unfold numR;rw [if_neg V4f,hr]
theorem q48(base:Nat)(D:ByteArray)(n:Nat)(h:D.size≠0)(hr:nrun base D.data.toList 0=some n):numR base D.data.toList=if n = 4294967296 then (0,2) else (n,0):=by
 unfold numR;rw [if_neg V4f,hr]
theorem q5A(D:ByteArray)(h:D.size = 0):D.toList.isEmpty=true:=by
 rw [ByteArray.toList_eq];have:D.data.toList.length = 0:=Va;rw [List.length_eq_zero_iff.1 this];rfl
theorem q4F(D:ByteArray)(h:¬ D.size = 0):D.toList.isEmpty=false:=by
 rw [ByteArray.toList_eq];cases e:D.data.toList with
 | nil=>exfalso;apply h;have:=congrArg List.length e;simpa using this
 | cons=>rfl
theorem q2x(base:Nat)(D:ByteArray)(n:Nat):nrun base (D.data.toList.drop D.size) n=some n:=by
 rw [List.drop_of_length_le V3];rfl
theorem numC(hex:Bool)(s D:ByteArray)(w:World)(hp:Lib.hasPrefix s.data.toList [48,120]=hex)(hD:(⟨(Lib.trimPrefix s.data.toList [48,120]).toArray⟩:ByteArray)=D)(hsz:D.size<=maxLen) :
  Calls Tryz.prog 204 #[.string s] w fun e w'=>e = .returned (resN (numR (if hex then 16 else 10) D.data.toList))/\w=w':=by
 have hc:=Tryz.strings_CutPrefix s ⟨#[48,120]⟩ w;rw [show (ByteArray.mk #[48,120]).data.toList=[48,120] from rfl,hp,hD] at hc;have HC:=Hi hc;unfold maxLen at hsz;clear hc hp hD;by_cases hnil:D.size = 0
 ·have he:=q5A D hnil;rw [q7F _ D hnil];clear hnil;cases hex
  all_goals
   go_enter Tryz.func204,Tryz.ntmps204;go_wp2_with fail
   refine HC.out.mono ?_;rintro e w' ⟨rfl,rfl⟩
   go_wp2
   go_ret2
   exact ⟨rfl,rfl⟩
 have hne:=q4F D hnil;have HNE:Hid (D.size≠0):=Hi hnil;cases hex
 all_goals
  simp only [Bool.false_eq_true,if_true,if_false];go_enter Tryz.func204,Tryz.ntmps204;go_wp2_with fail
  refine HC.out.mono ?_;rintro e w' ⟨rfl,rfl⟩
  go_wp2
 ·go_loop [7,20] (fun vn vi=>∃ k n:Nat,k<=D.size/\vi = .int .i64 k/\vn = .int .u64 n/\n<=4294967296/\Hid (nrun 10 D.data.toList 0=nrun 10 (D.data.toList.drop k) n)) (fun _ vi=>D.size - (intOf vi).toNat)
  case atStart=>exact ⟨0,0,V0,rfl,rfl,V0,Hi rfl⟩
  case round=>
   obtain ⟨k,n,hk,rfl,rfl,hn,HI⟩:=hrel;clear hne hnil;by_cases hlt:k < D.size
   ·have hb:D[k].toNat < 256:=D[k].toNat_lt;have hdc:=digitC D[k].toNat hb;have hdl:=q57 D[k].toNat;by_cases hd:dvN D[k].toNat < 10
    ·have hst:=q20 10 D k n hlt hd;generalize dvN D[k].toNat=d at hdc hdl hd hst;have HS:=Hi hst;have HDC:=Hi hdc;clear hst hdc;go_wp2_with (go_at_call 214;refine (HDC.out _).mono ?_;rintro e w' ⟨rfl,rfl⟩)
     go_round
     case rel=>exact ⟨k+1,min (n * 10+d) 4294967296,V0,V7,V7,V0,Hi (by rw [HI.out,HS.out])⟩
     case measure=>simp [intOf];omega
    ·have hst:=q21 10 D k n hlt hd;rw [<-HI.out] at hst;have hfin:=q47 10 D HNE.out hst;exact V2H
   ·have:k=D.size:=by omega
    subst this;have hI:=HI.out;rw [q2x] at hI;have hfin:=q48 10 D n HNE.out hI;exact V2A
 ·go_loop [7,20] (fun vn vi=>∃ k n:Nat,k<=D.size/\vi = .int .i64 k/\vn = .int .u64 n/\n<=4294967296/\Hid (nrun 16 D.data.toList 0=nrun 16 (D.data.toList.drop k) n)) (fun _ vi=>D.size - (intOf vi).toNat)
  case atStart=>exact ⟨0,0,V0,rfl,rfl,V0,Hi rfl⟩
  case round=>
   obtain ⟨k,n,hk,rfl,rfl,hn,HI⟩:=hrel;clear hne hnil;by_cases hlt:k < D.size
   ·have hb:D[k].toNat < 256:=D[k].toNat_lt;have hdc:=digitC D[k].toNat hb;have hdl:=q57 D[k].toNat;by_cases hd:dvN D[k].toNat < 16
    ·have hst:=q20 16 D k n hlt hd;generalize dvN D[k].toNat=d at hdc hdl hd hst;have HS:=Hi hst;have HDC:=Hi hdc;clear hst hdc;go_wp2_with (go_at_call 214;refine (HDC.out _).mono ?_;rintro e w' ⟨rfl,rfl⟩)
     go_round
     case rel=>exact ⟨k+1,min (n * 16+d) 4294967296,V0,V7,V7,V0,Hi (by rw [HI.out,HS.out])⟩
     case measure=>simp [intOf];omega
    ·have hst:=q21 16 D k n hlt hd;rw [<-HI.out] at hst;have hfin:=q47 16 D HNE.out hst;exact V2H
   ·have:k=D.size:=by omega
    subst this;have hI:=HI.out;rw [q2x] at hI;have hfin:=q48 16 D n HNE.out hI;exact V2A
end Num
namespace Pa
open Go Go.ChangeShapes Go.WideShapes Go.ChangeAt Go.RowKit Lx Args
section
attribute [local go_sem] bH bI bJ
def ag(s:Bs):Nat×Nat:=Num.numR (if Lib.hasPrefix s [48,120]=true then 16 else 10) (Lib.trimPrefix s [48,120])
theorem q6h(b:Nat)(L:List UInt8):(Num.numR b L).2 = 0\/(Num.numR b L).2 = 2\/(Num.numR b L).2 = 4:=by
 unfold Num.numR;split
 ·exact .inr (.inr rfl)
 ·split
  ·exact .inr (.inr rfl)
  ·split
   ·exact .inr (.inl rfl)
   ·exact .inl rfl
theorem q7G(s p:Bs):(Lib.trimPrefix s p).length<=s.length:=by
 unfold Lib.trimPrefix;split
 ·rw [List.length_drop];omega
 ·exact Nat.le_refl _
theorem numC(s:Bs)(hs:s.length<=20000)(w:World):Calls Tryz.prog 204 #[.string ⟨s.toArray⟩] w fun e w'=>e = .returned (.tuple #[.int .u32 ((ag s).1:Int),.int .i64 ((ag s).2:Int)])/\w=w':=by
 have h:=Num.numC (Lib.hasPrefix s [48,120]) ⟨s.toArray⟩ ⟨(Lib.trimPrefix s [48,120]).toArray⟩ w rfl rfl (by
  have:=q7G s [48,120];show (Lib.trimPrefix s [48,120]).toArray.size<=maxLen;rw [List.size_toArray];unfold maxLen;omega)
 refine h.mono fun e w' h=>⟨h.1,h.2⟩
theorem number(w:World)(bp d:Nat)(t:Tk)(r:List Tk)(hp:PS w bp (t :: r) d)(hs:t.s.length<=20000)(hr:r≠[]) :
  Calls Tryz.prog 186 #[.pointer (some ⟨bp,0,none⟩)] w fun e w'=>
   ((ag t.s).2 = 0/\e = .returned (.int .u32 ((ag t.s).1:Int))/\PS w' bp r d/\UB bp w w')\/((ag t.s).2≠0/\e=panV t.at_ (if (ag t.s).2 = 4 then 100 else 150)/\UB bp w w'):=by
 have HN:=Hi (next w bp d t r hp);have HP:=Hi hp;have HR:=Hi hr;have hC:=numC t.s hs;have her:(ag t.s).2 = 0\/(ag t.s).2 = 2\/(ag t.s).2 = 4:=q6h _ _;generalize ag t.s=q at hC her ⊢;obtain ⟨n,er⟩:=q;dsimp only at hC her ⊢;have HC:=Hi hC;clear hp hr hC;rcases her with rfl | rfl | rfl
 all_goals
  go_enter Tryz.func186,Tryz.ntmps186;go_wp2_with fail
  refine HN.out.mono ?_;rintro e w1 ⟨rfl,hb1⟩;have Be:=Hi (HP.out.below hb1);have HB1:=Hi hb1;clear hb1;go_wp2_with fail
  refine (HC.out _).mono ?_;rintro e w' ⟨rfl,rfl⟩;go_wp2_with fail
 ·refine (take w1 bp d t r Be.out HR.out).mono ?_;rintro e w2 ⟨rfl,hp2,hu2⟩;have Ar:=Hi hp2;have Ai:=Hi ((q01 (bp:=bp) HB1.out).trans hu2);clear hp2 hu2;go_wp2_with fail
  go_ret;exact ⟨rfl,Ar.out,Ai.out⟩
 ·refine (here w1 bp d t r 150 Be.out).mono ?_;exact V34
 ·refine (here w1 bp d t r 100 Be.out).mono ?_;exact V34
theorem q6i(ps:List Bs){t u:Tk}{r:List Tk}(hk:t.k = 1)(hu:ak [44] u=false)(f:List Bs->List Tk->OO):aC ps (t :: u :: r) f=f (ps ++ [t.s]) (u :: r):=by
 conv=>lhs;unfold aC
 rw [if_pos hk,if_neg (by rw [hu];decide)]
theorem nk_go(ps:List Bs){t u:Tk}{r:List Tk}(hk:t.k = 1)(hu:ak [44] u=true)(f:List Bs->List Tk->OO):aC ps (t :: u :: r) f=aC (ps ++ [t.s]) r f:=by
 conv=>lhs;unfold aC
 rw [if_pos hk,if_pos hu]
theorem nk_no(ps:List Bs){t:Tk}{r:List Tk}(hk:t.k≠1)(f:List Bs->List Tk->OO):aC ps (t :: r) f=some (.bad t.at_ 100):=by
 cases r with
 | nil=>
  conv=>lhs;unfold aC
  rw [if_neg hk];rfl
 | cons u r=>
  conv=>lhs;unfold aC
  rw [if_neg hk];rfl
theorem infoSt:(Tryz.prog.info? 9).map (fun i=>(i.zero,i.size,i.bytes))=some (some (.string ⟨#[]⟩),1,16):=V1
def NmP(w:World)(bp d:Nat)(l:List Tk)(e:Ending)(w':World):Prop:=
 (∃ ps r g c,e = .returned (.slice (some ⟨g,0,none⟩) ps.length c)/\(∀ f,aC [] l f=f ps r)/\PS w' bp r d/\Et r/\r <:+ l/\r.length < l.length/\Af w' (some ⟨g,0,none⟩) (ps.map ai)/\w.heap.size<=g/\(ps.length<=4000/\ps.length<=c/\c<=maxLen)/\UB bp w w') \/
 (∃ a,e=panV a 100/\(∀ f,aC [] l f=some (.bad a 100))/\UB bp w w')
def NmI(w:World)(bp d:Nat)(l:List Tk)(ps:List Bs)(u:Tk)(r:List Tk)(g c:Nat)(W:World):Prop:=
 (∀ f,aC [] l f=if ak [44] u=true then aC ps r f else f ps (u :: r))/\PS W bp (u :: r) d/\Gt (u :: r)/\(u :: r) <:+ l/\(u :: r).length < l.length/\W.ownsRow w.heap.size 9 1 (.slice (some ⟨g,0,none⟩) ps.length c) ps.length (ps.map ai)/\ps.length+r.length<=4000/\UB bp w W
theorem q6j{t:Tk}{r:List Tk}(h:Et (t :: r))(ht:t.k≠0):∃ u r',r=u :: r':=by
 have:=q0h h ht;cases r with
 | nil=>exact absurd this q1U
 | cons u r'=>exact ⟨u,r',rfl⟩
theorem q6k{w:World}{lo g c:Nat}{ps:List Bs}(h:w.ownsRow lo 9 1 (.slice (some ⟨g,0,none⟩) ps.length c) ps.length (ps.map ai)):Af w (some ⟨g,0,none⟩) (ps.map ai)/\lo<=g:=
 ⟨fun j u hj=>⟨_,rfl,h.cells (g:=g) rfl j u hj⟩,(q0Q h).1⟩
def lenAt(w:World)(bp:Nat):Nat:=match w.cell? ⟨bp,0,none⟩ with | some (.slice _ n _)=>n | _=>0
theorem PS.len{w:World}{bp:Nat}{l:List Tk}{d:Nat}(h:PS w bp l d):lenAt w bp=l.length:=by
 obtain ⟨b,o,c,_,h1,_⟩:=h;unfold lenAt;rw [show w.cell? ⟨bp,0,none⟩=some (.slice (some ⟨b,o,none⟩) l.length c) from h1.cell 0]
theorem q6l{w wr w5 w8:World}{bp d g c g8 c8:Nat}{l r3:List Tk}{ps:List Bs}{u v v2:Tk}{X:Array Value}(HH:NmI w bp d l ps u (v :: v2 :: r3) g c wr)(hlt:bp < w.heap.size)(hon:ak [44] u=true)(hk:v.k = 1)(hgv:Gt (v :: v2 :: r3))(hU:UB bp wr w5)(hP:PS w5 bp (v2 :: r3) d)
  (hE:AppE w.heap.size 9 1 (w5.alloc (.cells X 9)) (.slice (some ⟨g,0,none⟩) ps.length c) ps.length 1 (ps.map ai ++ [.string ⟨v.s.toArray⟩]) g8 c8 w8):NmI w bp d l (ps ++ [v.s]) v2 r3 g8 c8 w8:=by
 obtain ⟨h1,h2,h3,h4,h5,h6,h7,h8⟩:=HH;have hg:=q0Q h6;have bU:Upd (fun b=>b=bp\/b=g) wr w8:=((hU.mono fun k hk=>Or.inl hk).alloc _).grown hE.grown fun k hk _=>by cases hk;exact .inr rfl
 have hu58:Upd (fun b=>b=g) w5 w8:=((Upd.refl _ w5).alloc _).grown hE.grown fun k hk _=>Vx
 refine ⟨fun f=>?_,hP.far hu58 fun b hb=>V0,hgv.tail V0,(List.suffix_cons _ _).trans ((List.suffix_cons _ _).trans h4),by simp only [List.length_cons] at h5 ⊢;omega,?_,by simp only [List.length_append,List.length_cons,List.length_nil] at h7 ⊢;omega,?_⟩
 ·rw [h1 f,if_pos hon];by_cases hu:ak [44] v2=true
  ·rw [if_pos hu,nk_go _ hk hu]
  ·rw [if_neg hu,q6i _ hk V0B]
 ·rw [List.length_append,List.map_append];exact hE.own
 ·exact ((h8.mono fun k hk=>Or.inl hk).trans bU).fresh fun k hk hs=>by
   rcases hk with hk | hk
   ·exact hk
   ·subst hk;exact absurd hs V0
theorem names(w:World)(bp d:Nat)(l:List Tk)(hp:PS w bp l d)(hg:Gt l) :
  Calls Tryz.prog 172 #[.pointer (some ⟨bp,0,none⟩)] w (NmP w bp d l):=by
 obtain ⟨t,r,rfl⟩:=hg.cons;have hlt:=hp.lt;obtain ⟨i0,hi,hz⟩:=Option.map_eq_some_iff.1 infoSt;have hz0:=congrArg (·.1) hz;have hz1:=congrArg (·.2.1) hz;have hz2:=congrArg (·.2.2) hz;have HI:=Hi hi;have HZ0:=Hi hz0;have HZ1:=Hi hz1;have HZ2:=Hi hz2;clear hi hz hz0 hz1 hz2;by_cases hk:t.k = 1
 ·obtain ⟨u,r,rfl⟩:=q6j hg.et V0;have HN:=Hi (name_yes w bp d t (u :: r) hp hk V3);have HG:=Hi (hg.tail V0);have HF:Hid (∀ f,aC [] (t :: u :: r) f=if ak [44] u=true then aC [t.s] r f else f [t.s] (u :: r)):=Hi fun f=>by
   by_cases hu:ak [44] u=true
   ·rw [if_pos hu,nk_go _ hk hu];rfl
   ·rw [if_neg hu,q6i _ hk V0B];rfl
  have hfw:=hg.few;have HFW:Hid (r.length+2<=4000):=Hi (by simpa using hfw);clear hp hg hk hfw;go_enter Tryz.func172,Tryz.ntmps172;go_wp2_with fail
  refine HN.out.mono ?_;rintro e w1 ⟨rfl,hp1,hu1⟩;have HJ:Hid (NmI w bp d (t :: u :: r) [t.s] u r w1.heap.size 1 (w1.alloc (.cells #[.string ⟨t.s.toArray⟩] 9))):=Hi ⟨HF.out,hp1.below ((Below.refl _ _).alloc (Nat.le_refl _) _),HG.out,List.suffix_cons _ _,V3,
   q11 w1 hu1.size 9 1 1 [.string ⟨t.s.toArray⟩] rfl V2,by have:=HFW.out;simp;omega,(hu1.alloc _)⟩
  clear hp1 hu1 HF HN HG HFW;go_wp2_with fail
  go_loopw [3] (fun vl wr=>∃ ps u' r' g c,vl = .slice (some ⟨g,0,none⟩) ps.length c/\Hid (NmI w bp d (t :: u :: r) ps u' r' g c wr)) (fun _ wr=>lenAt wr bp)
  case atStart=>exact ⟨[t.s],u,r,_,_,rfl,HJ⟩
  case round=>
   clear HJ;obtain ⟨ps,u',r',g,c,rfl,HH⟩:=hrel;have HIS:=Hi (is_ wr bp d u' r' [44] HH.out.2.1);by_cases hc:(u'.s==[44])=true
   ·rw [hc] at HIS;have hu':u'.k≠0:=by
     have:=q0A HH.out.2.2.1.hd V23;omega
    obtain ⟨v,r'',rfl⟩:=q6j HH.out.2.2.1.et hu';have hon:ak [44] u'=true:=by rw [q0q HH.out.2.2.1.hd V2];exact hc
    go_wp2_with fail
    refine HIS.out.mono ?_;rintro e w3 ⟨rfl,hb3⟩;have HT:=Hi (take w3 bp d u' (v :: r'') (HH.out.2.1.below hb3) V3);have HB3:=Hi hb3;clear hb3;go_wp2_with fail
    refine HT.out.mono ?_;rintro e w4 ⟨rfl,hp4,aF⟩;have hu4':UB bp wr w4:=(q01 HB3.out).trans aF;have hgv:Gt (v :: r''):=HH.out.2.2.1.tail hu';by_cases hk:v.k = 1
    ·obtain ⟨v2,r3,rfl⟩:=q6j hgv.et V0;have HN:=Hi (name_yes w4 bp d v (v2 :: r3) hp4 hk V3);have AO:=Hi hu4';clear hp4 aF hu4' hc;go_wp2_with fail
     refine HN.out.mono ?_;rintro e w5 ⟨rfl,hp5,bn⟩;have hu5':UB bp wr w5:=AO.out.trans bn;have AR:=Hi hu5';have how:w5.ownsRow w.heap.size 9 1 (.slice (some ⟨g,0,none⟩) ps.length c) ps.length (ps.map ai):=q0O HH.out.2.2.2.2.2.1 hu5' (by have:=(q0Q HH.out.2.2.2.2.2.1).1;omega);have HOA:=Hi (World.ownsRow.alloc how (.cells #[.string ⟨v.s.toArray⟩] 9));have HLI:=Hi (q06 w5 9 [.string ⟨v.s.toArray⟩]);have hsz:w.heap.size<=w5.heap.size:=Nat.le_trans HH.out.2.2.2.2.2.2.2.size hu5'.size;have HBS:=Hi (show w.heap.size<=(w5.alloc (.cells #[.string ⟨v.s.toArray⟩] 9)).heap.size from V4);have hfew:ps.length+(u' :: v :: v2 :: r3).length<=4001:=by have:=HH.out.2.2.2.2.2.2.1;simp at this ⊢;omega
     have HP5:=Hi hp5;simp only [List.length_cons] at hfew;clear hp5 bn hu5' how hsz;go_wp2_with (at_builtin;refine q0d rfl _ _ 24 rfl w.heap.size 9 i0 (.string ⟨#[]⟩) 1 16 Tryz.underlying24 HI.out HZ0.out HZ1.out HZ2.out rfl V2 _ ps.length _ rfl HOA.out ⟨w5.heap.size,0,none⟩ 1 1 [.string ⟨v.s.toArray⟩] rfl rfl HLI.out V0s V6 V0 HBS.out V2 ?_;intro g8 c8 w8 hE;have HE:=Hi hE;clear hE)
     go_roundw
     case rel=>exact ⟨ps ++ [v.s],v2,r3,g8,c8,V0t,Hi (q6l HH.out hlt hon hk hgv AR.out HP5.out HE.out)⟩
     case measure=>
      have e8:=PS.len (q6l HH.out hlt hon hk hgv AR.out HP5.out HE.out).2.1;have er:=PS.len HH.out.2.1;rw [e8,er];simp
    ·have HN:=Hi (name_no w4 bp d v r'' hp4 hk);have AO:=Hi hu4';clear hp4 aF hu4' hc;go_wp2_with fail
     refine HN.out.mono ?_;rintro e w5 ⟨rfl,bn⟩;have AR:=Hi (AO.out.trans bn);clear bn;go_wp2_with fail
     refine ⟨rfl,.inr ⟨_,rfl,fun f=>?_,HH.out.2.2.2.2.2.2.2.trans AR.out⟩⟩;rw [HH.out.1 f,if_pos hon,nk_no _ hk]
   ·have hc':(u'.s==[44])=false:=by simpa using hc
    rw [hc'] at HIS;have hon:ak [44] u'=false:=by rw [q0q HH.out.2.2.1.hd V2];exact hc'
    clear hc hc';go_wp2_with fail
    refine HIS.out.mono ?_;rintro e w3 ⟨rfl,hb3⟩;have HB3:=Hi hb3;clear hb3;go_wp2_with fail
    go_ret;obtain ⟨k1,k2,k3,k4,k5,k6,k7,k8⟩:=HH.out;have hs:=q6k k6;refine .inl ⟨ps,u' :: r',g,c,rfl,fun f=>?_,k2.below HB3.out,k3.et,k4,k5,hs.1.below HB3.out,hs.2,⟨V0,(own_cap k6 V0).le,(own_cap k6 V0).cap⟩,k8.trans (q01 HB3.out)⟩;rw [k1 f,hon];rfl
 ·have HN:=Hi (name_no w bp d t r hp hk);clear hp hg;go_enter Tryz.func172,Tryz.ntmps172;go_wp2_with fail
  refine HN.out.mono ?_;rintro e w1 ⟨rfl,hu1⟩;have Aj:=Hi hu1;clear hu1;go_wp2_with fail
  exact ⟨rfl,.inr ⟨_,rfl,fun f=>nk_no _ hk f,Aj.out⟩⟩
end
end Pa
end Go.Proofs.YtcgibpdjfgjldaaGreatDoor
