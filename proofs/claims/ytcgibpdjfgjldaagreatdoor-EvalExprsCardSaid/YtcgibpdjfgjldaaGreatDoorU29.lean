/- DERIVED. RqEe, RqSc, RqLe, RqGo, RqFo, RqSs, RqDo. By an AI agent. -/
import Derived.Test.YtcgibpdjfgjldaaGreatDoorU28
import Derived.Test.YtcgibpdjfgjldaaGreatDoorU24
set_option maxRecDepth 100000
set_option maxHeartbeats 4000000
set_option linter.unusedVariables false
set_option linter.unusedSimpArgs false
open Go Go.ChangeShapes Go.WideShapes Go.ChangeAt Go.RowKit
namespace Go.Proofs.YtcgibpdjfgjldaaGreatDoor
namespace Pq
open Lx Args Pa
section
attribute [local go_sem] fTk0 fTk1 fTk2
theorem lev5{M:Nat}(H:UnC M):LvQ 5 M:=by
 intro w bp d l hl hp hg;obtain ⟨w0,hw0,hb0,hB⟩:=q06 w;have hlt:=hp.lt;have HE:=Hi (H w0 bp d l hl (hp.below hb0) hg);have HB0:=Hi hb0;have HB:=Hi hB;have HW:=Hi hw0;have hbl:=hB.lt;clear hb0 hB hp hw0 hg;show Calls Tryz.prog 88 #[.pointer (some ⟨bp,0,none⟩),.int .i64 5,.int .i64 (d:Int)] w _;go_enter Tryz.func88,Tryz.ntmps88;go_wp2_with fail
 rw [HW.out];refine HE.out.mono ?_;rintro e w1 ⟨k,a,s,n,A,la,cA,B,lb,cB,rfl,hU,hO⟩;have h1:=HB.out.upd hU V0;obtain ⟨⟨e0,e1,e2,e3,e4,e5⟩,z0,z1,z2,z3,z4,z5⟩:=Blk.c6 h1;have H1:=Hi h1;have HU1:=Hi ((q00 HB0.out).trans hU);have HO:=Hi hO;clear h1 hU hO;go_wp2_with fail
 refine bodyPost_ret (resNd rfl rfl (Blk.put6 H1.out _ _ _ _ _ _) rfl) rfl ?_;exact q8Y hlt HB.out.lt HU1.out HO.out
theorem un_of{n:Nat}(HU:UnC n)(HE:ExQ n):UnC (n+1):=by
 intro w bp d l hl hp hg;obtain ⟨t,r,rfl⟩:=hg.cons;simp only [List.length_cons] at hl;by_cases hd:60 < d
 ·by_cases hk:t.k = 2
  ·exact q8g w bp d t r hd hp hg hk
  ·exact q8h w bp d t r hd hp hg hk
 have hd':d<=60:=V0;by_cases h126:isS [126] t=true
 ·exact un_not HU w bp d t r V0 hd' hp hg h126
 have h126':isS [126] t=false:=by simpa using h126
 by_cases h45:isS [45] t=true
 ·exact un_neg HU w bp d t r V0 hd' hp hg h126' h45
 have h45':isS [45] t=false:=by simpa using h45
 by_cases hk:t.k = 2
 ·rcases q6O (if Lib.hasPrefix t.s [48,120]=true then 16 else 10) (Lib.trimPrefix t.s [48,120]) with h | h | h
  ·exact un_num0 w bp d t r hd' hp hg hk h
  ·exact un_num2 w bp d t r hd' hp hg hk h
  ·exact un_num4 w bp d t r hd' hp hg hk h
 by_cases h40:isS [40] t=true
 ·exact un_par HE w bp d t r V0 hd' hp hg h40
 have h40':isS [40] t=false:=by simpa using h40
 by_cases hk1:t.k = 1
 ·obtain ⟨u,q,rfl⟩:=q6Q hg.et V0;simp only [List.length_cons] at hl;by_cases hu:isS [40] u=true
  ·exact un_call HE w bp d t u q V0 hd' hp hg hk1 hu
  ·exact un_name w bp d t u q hd' hp hg hk1 V0y
 ·exact q5S w bp d t r hd' hp h126' h45' hk h40' hk1
theorem ex_of{n:Nat}(H:LvQ 0 n):ExQ n:=by
 intro w bp d l hl hp hg;obtain ⟨t,r,rfl⟩:=hg.cons;by_cases hd:60 < d
 ·exact ex_deep w bp d t r hp hd
 ·exact ex_at w bp d t r hp V0 fun w0 h0=>H w0 bp d (t :: r) hl h0 hg
theorem levs_of{n:Nat}(H:UnC n):LvQ 0 n:=by
 have h5:=lev5 H;have h4:LvQ 4 n:=fun w bp d l=>lev4 h5 w bp d l
 have h3:LvQ 3 n:=fun w bp d l=>lev3 h4 w bp d l
 have h2:LvQ 2 n:=fun w bp d l=>lev2 h3 w bp d l
 have h1:LvQ 1 n:=fun w bp d l=>lev1 h2 w bp d l
 exact fun w bp d l=>lev0 h1 w bp d l
theorem ex_all:∀ n,UnC n/\ExQ n:=by
 intro n
 induction n with
 | zero=>
  refine ⟨fun w bp d l hl hp hg=>?_,fun w bp d l hl hp hg=>?_⟩
  all_goals
   obtain ⟨t,r,rfl⟩:=hg.cons;simp at hl
 | succ n ih=>
  have h:=un_of ih.1 ih.2;exact ⟨h,ex_of (levs_of h)⟩
theorem ex(w:World)(bp d:Nat)(l:List Tk)(hp:QS w bp l 0 0)(hg:Gt l) :
  Calls Tryz.prog 46 #[.pointer (some ⟨bp,0,none⟩),.int .i64 (d:Int)] w (OutQ w bp l (Rd numV (.lev 0) d l)):=
 (ex_all l.length).2 w bp d l (Nat.le_refl _) hp hg
end
def whyQ(w:World)(bp:Nat):Int:=match w.cell? ⟨bp,3,none⟩ with
 | some (.int _ z)=>z
 | _=>0
theorem QS.why{w:World}{bp ba wy:Nat}{l:List Tk}(h:QS w bp l ba wy):whyQ w bp=(wy:Int):=by
 obtain ⟨b,o,c,pre,_,h1,_⟩:=h;unfold whyQ;rw [show w.cell? ⟨bp,3,none⟩=some (.int .i64 (wy:Int)) from h1.cell 3]
def SC(w:World)(bp n:Nat)(G:Nat->List Tk->OO)(E:Out->Prop):Prop:=
 (∃ l,QS w bp l 0 0/\Gt l/\l.length<=n/\∀ o,Ev (fun f=>G f l) o->E o)\/(∃ ba er t r,er≠0/\E (.bad ba er)/\QS w bp (t :: r) ba er)
theorem SC.lt{w:World}{bp n:Nat}{G:Nat->List Tk->OO}{E:Out->Prop}(h:SC w bp n G E):bp < w.heap.size:=by
 rcases h with ⟨l,h,_⟩ | ⟨ba,er,t,r,_,_,h⟩
 ·exact h.lt
 ·exact h.lt
theorem SC.below{w w':World}{bp n:Nat}{G:Nat->List Tk->OO}{E:Out->Prop}(h:SC w bp n G E)(hb:Below w.heap.size w w'):SC w' bp n G E:=by
 rcases h with ⟨l,h,g⟩ | ⟨ba,er,t,r,h1,h2,h⟩
 ·exact .inl ⟨l,h.below hb,g⟩
 ·exact .inr ⟨ba,er,t,r,h1,h2,h.below hb⟩
theorem SC.far{X:Nat->Prop}{w w':World}{bp n:Nat}{G:Nat->List Tk->OO}{E:Out->Prop}(h:SC w bp n G E)(hu:Upd X w w')(hX:∀ b,X b->bp < b):SC w' bp n G E:=by
 rcases h with ⟨l,h,g⟩ | ⟨ba,er,t,r,h1,h2,h⟩
 ·exact .inl ⟨l,h.far hu hX,g⟩
 ·exact .inr ⟨ba,er,t,r,h1,h2,h.far hu hX⟩
theorem SC.why{w:World}{bp n:Nat}{G:Nat->List Tk->OO}{E:Out->Prop}(h:SC w bp n G E)(hw:whyQ w bp = 0):∃ l,QS w bp l 0 0/\Gt l/\l.length<=n/\∀ o,Ev (fun f=>G f l) o->E o:=by
 rcases h with h | ⟨ba,er,t,r,h1,h2,h⟩
 ·exact h
 ·rw [h.why] at hw;omega
def Stay(bp:Nat)(w w':World):Prop:=whyQ w bp≠0->whyQ w' bp≠0
theorem q0B{w w':World}{bp ba:Nat}{l:List Tk}(h:QS w bp l ba 0):Stay bp w w':=fun hw=>absurd h.why hw
theorem q1B{w w':World}{bp ba er:Nat}{l:List Tk}(h:QS w' bp l ba er)(he:er≠0):Stay bp w w':=fun _=>by rw [h.why];omega
theorem q51{t:Tk}{r:List Tk}(h:Gt (t :: r))(ht:t.k≠0):r≠[]:=by
 obtain ⟨u,q,h2⟩:=(h.tail ht).cons;rw [h2];simp
theorem q3d(w:World)(bp n:Nat)(b:Bs)(G:Nat->List Tk->OO)(E:Out->Prop)(h:SC w bp n (fun f l=>must b l (fun r=>G f r)) E) :
  Calls Tryz.prog 55 #[.pointer (some ⟨bp,0,none⟩),.string ⟨b.toArray⟩] w fun e w'=>e=vd/\SC w' bp (n - 1) G E/\UB bp w w'/\Stay bp w w':=by
 rcases h with ⟨l,hq,hg,hl,hE⟩ | ⟨ba,er,t,r,he,hE,hq⟩
 ·obtain ⟨t,r,rfl⟩:=hg.cons;simp only [List.length_cons] at hl;by_cases hb:isS b t=true
  ·refine (must_yes w bp t r b hq hb (q51 hg (q1J hb))).mono ?_;rintro e w' ⟨rfl,hp,hu⟩;exact ⟨rfl,.inl ⟨r,hp,hg.tail (q1J hb),V0,fun o ho=>hE o (q0t ho fun f=>q0C hb _)⟩,hu,q0B hq⟩
  ·have hb':isS b t=false:=by simpa using hb
   refine (must_no w bp t r b hq hb').mono ?_;rintro e w' ⟨rfl,hp,hu⟩;exact ⟨rfl,.inr ⟨t.at_,100,t,r,V2,hE _ (q0t (q09 _) fun f=>q1p hb' _),hp⟩,hu,q0B hq⟩
 ·refine (q2W w bp ba er t r b hq he).mono ?_;rintro e w' ⟨rfl,hb⟩;exact ⟨rfl,.inr ⟨ba,er,t,r,he,hE,hq.below hb⟩,q00 hb,q1B (hq.below hb) he⟩
theorem q5B(w:World)(bp n:Nat)(G:Bs->Nat->List Tk->OO)(E:Out->Prop)(h:SC w bp n (fun f l=>nameK l (fun s r=>G s f r)) E) :
  Calls Tryz.prog 56 #[.pointer (some ⟨bp,0,none⟩)] w fun e w'=>∃ s:Bs,e = .returned (.string ⟨s.toArray⟩)/\SC w' bp (n - 1) (G s) E/\UB bp w w'/\Stay bp w w':=by
 rcases h with ⟨l,hq,hg,hl,hE⟩ | ⟨ba,er,t,r,he,hE,hq⟩
 ·obtain ⟨t,r,rfl⟩:=hg.cons;simp only [List.length_cons] at hl;by_cases hk:t.k = 1
  ·refine (name_yes w bp t r hq hk (q51 hg V0)).mono ?_;rintro e w' ⟨rfl,hp,hu⟩;exact ⟨t.s,rfl,.inl ⟨r,hp,hg.tail V0,V0,fun o ho=>hE o (q0t ho fun f=>q1q hk _)⟩,hu,q0B hq⟩
  ·refine (name_no w bp t r hq hk).mono ?_;rintro e w' ⟨rfl,hp,hu⟩;exact ⟨t.s,rfl,.inr ⟨t.at_,100,t,r,V2,hE _ (q0t (q09 _) fun f=>q3a hk _),hp⟩,hu,q0B hq⟩
 ·refine (q4s w bp ba er t r hq he).mono ?_;rintro e w' ⟨rfl,hb⟩;exact ⟨t.s,rfl,.inr ⟨ba,er,t,r,he,hE,hq.below hb⟩,q00 hb,q1B (hq.below hb) he⟩
def ExU(w:World)(bp n:Nat)(G:List Tr->Nat->List Tk->OO)(E:Out->Prop)(e:Ending)(w':World):Prop:=
 ∃ k a s m A la cA B lb cB x,e = .returned (.agg #[.int .i64 (k:Nat),.string ⟨(s:Bs).toArray⟩,.int .u32 (m:Nat),.int .i64 (a:Nat),.slice A la cA,.slice B lb cB]) /\
  (whyQ w' bp = 0->TIn (fun b=>w.heap.size<=b) w' x (ndC k a s m A la cA B lb cB))/\SC w' bp (n - 1) (G [x]) E/\UB bp w w'/\Stay bp w w'
theorem ex_u(w:World)(bp n d:Nat)(G:List Tr->Nat->List Tk->OO)(E:Out->Prop)(h:SC w bp n (fun f l=>bnd (pF numV f (.lev 0) d l) (fun xs r=>G xs f r)) E) :
  Calls Tryz.prog 46 #[.pointer (some ⟨bp,0,none⟩),.int .i64 (d:Int)] w (ExU w bp n G E):=by
 rcases h with ⟨l,hq,hg,hl,hE⟩ | ⟨ba,er,t,r,he,hE,hq⟩
 ·refine (ex w bp d l hq hg).mono ?_;rintro e w' ⟨k,a,s,m,A,la,cA,B,lb,cB,rfl,hU,hO⟩;rcases hO with ⟨x,r,hT,hR,hP,hG,hr⟩ | ⟨ba,er,t,r,he,hR,hP⟩
  ·exact ⟨k,a,s,m,A,la,cA,B,lb,cB,x,rfl,fun _=>hT,.inl ⟨r,hP,hG,V0,fun o ho=>hE o (q0z (K:=fun f xs r=>G xs f r) hR ho)⟩,hU,q0B hq⟩
  ·refine ⟨k,a,s,m,A,la,cA,B,lb,cB,.mk 0 0 [] 0 [] [],rfl,fun hw=>?_,.inr ⟨ba,er,t,r,he,hE _ (q11 (K:=fun f xs r=>G xs f r) hR),hP⟩,hU,q0B hq⟩;rw [hP.why] at hw;omega
 ·refine (ex_dead w bp ba er d t r hq he).mono ?_;rintro e w' ⟨rfl,hb⟩;refine ⟨0,0,[],0,none,0,0,none,0,0,.mk 0 0 [] 0 [] [],rfl,fun hw=>?_,.inr ⟨ba,er,t,r,he,hE,hq.below hb⟩,q00 hb,q1B (hq.below hb) he⟩;rw [(hq.below hb).why] at hw;omega
section
attribute [local go_sem] fTk0 fTk1 fTk2
theorem ev_up{K K':Nat->OO}{o:Out}(h:Ev K o)(he:∀ f,K' (f+1)=K f):Ev K' o:=by
 obtain ⟨g,hg⟩:=h;refine ⟨g+1,fun f hf=>?_⟩;obtain ⟨j,rfl⟩:∃ j,f=j+1:=⟨f - 1,V0⟩;rw [he];exact hg j V0
def FinK(f k a:Nat)(s:Bs)(ps:List Bs)(d:Nat)(l:List Tk):OO:=bnd (pF numV f (.lev 0) d l) fun xs r=>must [59] r fun r'=>some (.ok [.mk k a s 0 ps xs] r')
theorem set_fin(f k a d:Nat)(l:List Tk):SetK numV (f+1) k a d l=(nameK l fun s r1=>must [61] r1 fun r2=>FinK f k a s [] d r2):=rfl
theorem SC.stay{w w':World}{bp n:Nat}{G:Nat->List Tk->OO}{E:Out->Prop}(h:SC w bp n G E)(hb:Below w.heap.size w w'):Stay bp w w':=by
 rcases h with ⟨l,h,g⟩ | ⟨ba,er,t,r,h1,h2,h⟩
 ·exact q0B h
 ·exact q1B (h.below hb) h1
theorem Stay.back{bp:Nat}{w w':World}(h:Stay bp w w')(h0:whyQ w' bp = 0):whyQ w bp = 0:=by
 by_cases h1:whyQ w bp = 0
 ·exact h1
 ·exact absurd h0 (h h1)
theorem q4t{w:World}{bp ba:Nat}{l:List Tk}(h:QS w bp l ba 0):whyQ w bp = 0:=h.why
end
section
attribute [local go_sem] fTk0 fTk1 fTk2
def Gk(b:Bs)(A B:Nat->List Tk->OO)(f:Nat)(l:List Tk):OO:=match l with
 | []=>none
 | t :: r=>if isS b t=true then A f r else B f (t :: r)
theorem SC.imp{w:World}{bp n:Nat}{G G':Nat->List Tk->OO}{E:Out->Prop}(h:SC w bp n G E)(he:∀ f l,Gt l->G' f l=G f l):SC w bp n G' E:=by
 rcases h with ⟨l,h1,h2,h3,h4⟩ | h
 ·exact .inl ⟨l,h1,h2,h3,fun o ho=>h4 o (q0t ho fun f=>(he f l h2).symm)⟩
 ·exact .inr h
theorem SC.le{w:World}{bp n m:Nat}{G:Nat->List Tk->OO}{E:Out->Prop}(h:SC w bp n G E)(hm:n<=m):SC w bp m G E:=by
 rcases h with ⟨l,h1,h2,h3,h4⟩ | h
 ·exact .inl ⟨l,h1,h2,V0,h4⟩
 ·exact .inr h
theorem SC.me{w:World}{bp n:Nat}{G:Nat->List Tk->OO}{E:Out->Prop}(h:SC w bp n G E):meQ w bp<=n+1:=by
 rcases h with ⟨l,h1,h2,h3,h4⟩ | ⟨ba,er,t,r,he,_,h⟩
 ·rw [h1.me];omega
 ·rw [h.me0 he];omega
theorem goes_u(w:World)(bp n:Nat)(b:Bs)(A B:Nat->List Tk->OO)(E:Out->Prop)(h:SC w bp n (Gk b A B) E) :
  Calls Tryz.prog 53 #[.pointer (some ⟨bp,0,none⟩),.string ⟨b.toArray⟩] w fun e w'=>
   (e = .returned (.bool true)/\(∃ l,QS w' bp l 0 0/\Gt l/\l.length+1<=n/\l.length+1 < meQ w bp/\∀ o,Ev (fun f=>A f l) o->E o)/\UB bp w w'/\Stay bp w w')\/(e = .returned (.bool false)/\SC w' bp n B E/\Below w.heap.size w w'/\Stay bp w w'):=by
 rcases h with ⟨l,hq,hg,hl,hE⟩ | ⟨ba,er,t,r,he,hE,hq⟩
 ·obtain ⟨t,r,rfl⟩:=hg.cons;have hm:=hq.me;simp only [List.length_cons] at hl hm;by_cases hb:isS b t=true
  ·refine (q0A w bp t r b hq hb (q51 hg (q1J hb))).mono ?_;rintro e w' ⟨rfl,hp,hu⟩;exact .inl ⟨rfl,⟨r,hp,hg.tail (q1J hb),V0,V0,fun o ho=>hE o (q0t ho fun f=>if_pos hb)⟩,hu,q0B hq⟩
  ·have hb':isS b t=false:=by simpa using hb
   refine (q04 w bp 0 0 t r b hq (.inr hb')).mono ?_;rintro e w' ⟨rfl,hb2⟩;exact .inr ⟨rfl,.inl ⟨t :: r,hq.below hb2,hg,VD,fun o ho=>hE o (q0t ho fun f=>if_neg hb)⟩,hb2,q0B hq⟩
 ·refine (q04 w bp ba er t r b hq (.inl he)).mono ?_;rintro e w' ⟨rfl,hb⟩;exact .inr ⟨rfl,.inr ⟨ba,er,t,r,he,hE,hq.below hb⟩,hb,q1B (hq.below hb) he⟩
theorem Stay.trans{bp:Nat}{w w1 w2:World}(h:Stay bp w w1)(h2:Stay bp w1 w2):Stay bp w w2:=fun hw=>h2 (h hw)
theorem stay_eq{bp:Nat}{w w':World}(h:whyQ w' bp=whyQ w bp):Stay bp w w':=fun hw=>by rw [h];exact hw
def NmK(ps:List Bs)(G:List Bs->Nat->List Tk->OO)(f:Nat)(l:List Tk):OO:=namesK ps l fun ps r=>G ps f r
def CmK(ps:List Bs)(G:List Bs->Nat->List Tk->OO):Nat->List Tk->OO:=Gk [44] (NmK ps G) (G ps)
theorem nm_k(ps:List Bs)(G:List Bs->Nat->List Tk->OO)(f:Nat)(l:List Tk)(hg:Gt l):nameK l (fun s r=>CmK (ps ++ [s]) G f r)=NmK ps G f l:=by
 obtain ⟨t,r,rfl⟩:=hg.cons;by_cases hk:t.k = 1
 ·obtain ⟨u,q,hr⟩:=(hg.tail V0).cons;subst hr;rw [q1q hk];unfold NmK CmK Gk;by_cases hu:isS [44] u=true
  ·rw [nk_go _ hk hu];exact if_pos hu
  ·rw [q6P _ hk V0y];exact if_neg hu
 ·rw [q3a hk];unfold NmK;rw [nk_no _ hk]
structure NqI(w:World)(bp n:Nat)(G:List Bs->Nat->List Tk->OO)(E:Out->Prop)(ps:List Bs)(g c m:Nat)(W:World):Prop where
 sc:SC W bp m (CmK ps G) E
 own:W.ownsRow w.heap.size 9 1 (.slice (some ⟨g,0,none⟩) ps.length c) ps.length (ps.map strV)
 few:ps.length+m<=n+1
 less:m<=n - 1
 ub:UB bp w W
 stay:Stay bp w W
theorem q8j{w w':World}{bp g:Nat}(hb:bp < w.heap.size)(hu:Upd (fun b=>b=g) w w')(hg:bp≠g):whyQ w' bp=whyQ w bp:=by
 unfold whyQ;have h:=hu.block bp hb hg;unfold World.cell?;simp only [h]
theorem q7c(w:World)(bp n:Nat)(hn:n<=4000)(G:List Bs->Nat->List Tk->OO)(E:Out->Prop)(h:SC w bp n (NmK [] G) E) :
  Calls Tryz.prog 54 #[.pointer (some ⟨bp,0,none⟩)] w fun e w'=>∃ ps g c,e = .returned (.slice (some ⟨g,0,none⟩) ps.length c)/\Lies w' (some ⟨g,0,none⟩) (ps.map strV)/\w.heap.size<=g/\(ps.length<=4001/\ps.length<=c/\c<=maxLen)/\SC w' bp (n - 1) (G ps) E/\UB bp w w'/\Stay bp w w':=by
 have hlt:=h.lt;obtain ⟨i0,hi,hz⟩:=Option.map_eq_some_iff.1 infoSt;have hz0:=congrArg (·.1) hz;have hz1:=congrArg (·.2.1) hz;have hz2:=congrArg (·.2.2) hz;have HI:=Hi hi;have HZ0:=Hi hz0;have HZ1:=Hi hz1;have HZ2:=Hi hz2;have HN:=Hi (q5B w bp n (fun s=>CmK [s] G) E (h.imp fun f l hg=>nm_k [] G f l hg));clear hi hz hz0 hz1 hz2 h;go_enter Tryz.func54,Tryz.ntmps54;go_wp2_with fail
 refine HN.out.mono ?_;rintro e w1 ⟨s1,rfl,hs1,hu1,hst1⟩;have HJ:Hid (NqI w bp n G E [s1] w1.heap.size 1 (n - 1) (w1.alloc (.cells #[.string ⟨s1.toArray⟩] 9))):=Hi ⟨hs1.below ((Below.refl _ _).alloc (Nat.le_refl _) _),q1R w1 hu1.size 9 1 1 [.string ⟨s1.toArray⟩] rfl V2,V4,Nat.le_refl _,hu1.alloc _,hst1.trans (hs1.stay ((Below.refl _ _).alloc (Nat.le_refl _) _))⟩;clear hs1 hu1 hst1 HN;go_wp2_with fail
 go_loopw [3] (fun vl wr=>∃ ps g c m,vl = .slice (some ⟨g,0,none⟩) ps.length c/\Hid (NqI w bp n G E ps g c m wr)) (fun _ wr=>meQ wr bp)
 case atStart=>exact ⟨[s1],_,_,_,rfl,HJ⟩
 case round=>
  clear HJ;obtain ⟨ps,g,c,m,rfl,HH⟩:=hrel;have hgs:=q15 HH.out.own;go_wp2_with fail
  refine (goes_u wr bp m [44] _ _ E HH.out.sc).mono ?_;rintro e w2 (⟨rfl,⟨l,hq,hgt,hlm,hme,hE⟩,hu2,hst2⟩ | ⟨rfl,hsc,hb2,hst2⟩)
  ·have HNM:=Hi (q5B w2 bp l.length (fun s=>CmK (ps ++ [s]) G) E (.inl ⟨l,hq,hgt,Nat.le_refl _,fun o ho=>hE o (q0t ho fun f=>(nm_k ps G f l hgt).symm)⟩));have hl0:0 < l.length:=by obtain ⟨t,r,rfl⟩:=hgt.cons;simp
   have HU2:=Hi hu2;have HST2:=Hi hst2;clear hq hgt hE hu2 hst2;go_wp2_with fail
   refine HNM.out.mono ?_;rintro e w5 ⟨sn,rfl,hs5,hu5,hst5⟩;have hu5':UB bp wr w5:=HU2.out.trans hu5;have how:w5.ownsRow w.heap.size 9 1 (.slice (some ⟨g,0,none⟩) ps.length c) ps.length (ps.map strV):=q0Y HH.out.own hu5' V0;have HOA:=Hi (World.ownsRow.alloc how (.cells #[.string ⟨sn.toArray⟩] 9));have HLI:=Hi (q07 w5 9 [.string ⟨sn.toArray⟩]);have hsz:w.heap.size<=w5.heap.size:=Nat.le_trans HH.out.ub.size hu5'.size;have HBS:=Hi (show w.heap.size<=(w5.alloc (.cells #[.string ⟨sn.toArray⟩] 9)).heap.size from V4);have hfew:ps.length<=4001:=by have:=HH.out.few;omega
   have HS5:=Hi hs5;have HU5:=Hi hu5';have HST5:=Hi hst5;have HOW:=Hi how;clear hs5 hu5 hu5' hst5 how;go_wp2_with (at_builtin;refine q0d rfl _ _ 24 rfl w.heap.size 9 i0 (.string ⟨#[]⟩) 1 16 Tryz.underlying24 HI.out HZ0.out HZ1.out HZ2.out rfl V2 _ ps.length _ rfl HOA.out ⟨w5.heap.size,0,none⟩ 1 1 [.string ⟨sn.toArray⟩] rfl rfl HLI.out Vt V8 V0 HBS.out V2 ?_;intro g8 c8 w8 hE;have HE:=Hi hE;clear hE)
   have hu58:Upd (fun b=>b=g) w5 w8:=((Upd.refl _ w5).alloc _).grown HE.out.grown fun k hk _=>VE
   have hJ8:NqI w bp n G E (ps ++ [sn]) g8 c8 (l.length - 1) w8:=by
    refine ⟨HS5.out.far hu58 fun b hb=>V0,?_,?_,by have:=HH.out.less;omega,?_,?_⟩
    ·rw [List.length_append,List.map_append];exact HE.out.own
    ·have:=HH.out.few;simp only [List.length_append,List.length_cons,List.length_nil];omega
    ·refine ((((HH.out.ub.trans HU5.out).mono fun k hk=>Or.inl hk).trans (hu58.mono fun k hk=>Or.inr hk)):Upd (fun b=>b=bp\/b=g) w w8).fresh fun k hk hs=>?_
     rcases hk with hk | hk
     ·exact hk
     ·subst hk;exact absurd hs V0
    ·exact ((HH.out.stay.trans HST2.out).trans HST5.out).trans (stay_eq (q8j HS5.out.lt hu58 V0))
   have HJ8:=Hi hJ8;clear hJ8 hu58
   go_roundw
   case rel=>exact ⟨ps ++ [sn],g8,c8,_,V0p,HJ8⟩
   case measure=>
    have:=HJ8.out.sc.me;omega
  ·have HSC:=Hi hsc;have HB2:=Hi hb2;have HST2:=Hi hst2;clear hsc hb2 hst2;go_wp2_with fail
   go_ret;have hs:=q6R HH.out.own;have hfew:=HH.out.few;exact ⟨ps,g,c,rfl,hs.1.below HB2.out,hs.2,⟨V0,(Pa.own_cap HH.out.own V0).le,(Pa.own_cap HH.out.own V0).cap⟩,HSC.out.le (by have:=HH.out.less;omega),HH.out.ub.trans (q00 HB2.out),HH.out.stay.trans HST2.out⟩
end
section
attribute [local go_sem] fTk0 fTk1 fTk2
theorem ArrT.two{e:TypeId}{lo:Nat}{w1:World}{x y:Tr}{cs ds:List Value}(hx:TIn (fun b=>lo<=b) w1 x cs)(hy:TIn (fun b=>lo<=b) w1 y ds)(hlo:lo<=w1.heap.size):ArrT e lo (w1.alloc (.cells (cs ++ ds).toArray e)) w1.heap.size 2 [x,y]:=by
 refine ⟨[cs,ds],?_,?_⟩
 ·have:=q1R w1 hlo e 6 2 (cs ++ ds) (by rw [List.length_append,q3j hx,q3j hy]) V2;simpa using this
 ·have h1:=q1f (hx.mono (N':=fun b=>lo<=b/\b≠w1.heap.size) fun b hb hs=>⟨hb,V0⟩);have h2:=q1f (hy.mono (N':=fun b=>lo<=b/\b≠w1.heap.size) fun b hb hs=>⟨hb,V0⟩);exact (q2r h1 h2).upd ((Upd.refl (fun _=>False) w1).alloc _) (fun _ _ h=>h)
end
section
attribute [local go_sem] fTk0 fTk1 fTk2
theorem q4u{lo g c:Nat}{w:World}{ps:List Bs}(hL:Lies w (some ⟨g,0,none⟩) (ps.map strV))(hg:lo<=g)(hl:CapOk ps.length c)(k a:Nat):TIn (fun b=>lo<=b) w (.mk k a [] 0 ps []) (ndC k a [] 0 none 0 0 (some ⟨g,0,none⟩) ps.length c):=by
 unfold TIn;exact ⟨none,0,some ⟨g,0,none⟩,c,rfl,⟨V3,V3,V2⟩,hl,hL,fun b o e _=>by cases e;exact hg,[],Lies.nil _ _,fun b o e=>Vw,V0z⟩
theorem q7d{k a:Nat}{t:Tk}{r:List Tk}{o:Out}(h:∀ f,pF numV (f+1) .stmt 0 (t :: r)=InK k a r)(ho:Ev (fun f=>NmK [] (fun ps _ r1=>must [59] r1 fun r2=>some (.ok [.mk k a [] 0 ps []] r2)) f r) o):Rd numV .stmt 0 (t :: r) o:=q0k ho h
theorem q90{k a:Nat}{t:Tk}{r:List Tk}{o:Out}(h:∀ f,pF numV (f+1) .stmt 0 (t :: r)=SetK numV f k a 0 r)(ho:Ev (fun f=>nameK r fun s r1=>must [61] r1 fun r2=>FinK f k a s [] 0 r2) o):Rd numV .stmt 0 (t :: r) o:=q0k (ev_up ho fun f=>set_fin f k a 0 r) h
def FnQ(f a:Nat)(r:List Tk):OO:=nameK r fun s r1=>must [40] r1 fun r2=>NmK [] (fun ps f r3=>must [41] r3 fun r4=>must [61] r4 fun r5=>FinK f 12 a s ps 0 r5) f r2
theorem st_fn{a:Nat}{t:Tk}{r:List Tk}{o:Out}(h:∀ f,pF numV (f+1) .stmt 0 (t :: r)=FnK numV f a 0 r)(ho:Ev (fun f=>FnQ f a r) o):Rd numV .stmt 0 (t :: r) o:=q0k (ev_up (K':=fun f=>FnK numV f a 0 r) ho fun f=>rfl) h
theorem st_secret(w:World)(bp:Nat)(t:Tk)(r:List Tk)(hp:QS w bp (t :: r) 0 0)(hg:Gt (t :: r))(y:isS [115,101,99,114,101,116] t=true) :
  Calls Tryz.prog 26 #[.pointer (some ⟨bp,0,none⟩)] w (OutQ w bp (t :: r) (Rd numV .stmt 0 (t :: r))):=by
 have HR:=Hi fun (o:Out)=>q7d (k:=6) (a:=t.at_) (t:=t) (r:=r) (o:=o) fun f=>by rw [st_,if_pos y]
 obtain ⟨w0,hw0,hb0,hB⟩:=q06 w;have hlt:=hp.lt;have hfw:=hg.few;simp only [List.length_cons] at hfw;have HT:=Hi (tok w0 bp 0 0 t r (hp.below hb0));have HP0:=Hi (hp.below hb0);have HGR:=Hi (hg.tail (q1J y));have HNE:=Hi (q51 hg (q1J y));have HY:=Hi y;have HB0:=Hi hb0;have HB:=Hi hB;have HW:=Hi hw0;have hbl:=hB.lt;clear hb0 hB hp hw0 hg y;go_enter Tryz.func26,Tryz.ntmps26;go_wp2_with fail
 rw [HW.out];refine HT.out.mono ?_;rintro e w1 ⟨rfl,hb1⟩;have h01:=hb1.size;have HP1:=Hi (HP0.out.below hb1);have HU1:=Hi ((q00 (bp:=bp) HB0.out).trans (q00 hb1));have HX1:=Hi (HB.out.below hb1 HB.out.lt);clear hb1 HT HP0;go_wp2_with fail
 refine (q0A w1 bp t r [115,101,99,114,101,116] HP1.out HY.out HNE.out).mono ?_;rintro e wa ⟨rfl,hpa,hua⟩;have HSa:Hid (SC wa bp r.length (NmK [] fun ps _ r1=>must [59] r1 fun r2=>some (.ok [.mk 6 t.at_ [] 0 ps []] r2)) (Rd numV .stmt 0 (t :: r))):=Hi (.inl ⟨r,hpa,HGR.out,Nat.le_refl _,fun o ho=>HR.out o ho⟩);have h1a:=hua.size;have HUa:=Hi (HU1.out.trans hua);have HXa:=Hi (HX1.out.upd hua (show ¬ w.heap.size=bp from V0));clear hpa hua HP1 HU1 HX1;go_wp2_with fail
 refine (q7c wa bp r.length V0 _ _ HSa.out).mono ?_;rintro e wb ⟨ps,gp,cp,rfl,hLb,hgb,hplen,hsb,hub,hstb⟩;have hab:=hub.size;have HSb:=Hi hsb;have HLb:=Hi hLb;have HUb:=Hi (HUa.out.trans hub);have HXb:=Hi (HXa.out.upd hub (show ¬ w.heap.size=bp from V0));clear hsb hub hstb hLb HSa HUa HXa;go_wp2_with fail
 refine (q3d wb bp _ _ (fun _ r2=>some (.ok [.mk 6 t.at_ [] 0 ps []] r2)) _ HSb.out).mono ?_;rintro e wc ⟨rfl,hsc,huc,hstc⟩;have hbc:=huc.size;have hx:=HXb.out.upd huc (show ¬ w.heap.size=bp from V0);obtain ⟨⟨e0,e1,e2,e3,e4,e5⟩,z0,z1,z2,z3,z4,z5⟩:=Blk.c6 hx;have hxl:=hx.lt;have HSc:=Hi hsc;have HUc:=Hi (HUb.out.trans huc);have HXc:=Hi hx;have HLc:=Hi (huc.lies HLb.out fun b o e _ hx=>Va);clear hsc huc hstc hx HSb HUb HXb HLb;go_wp2_with fail
 refine bodyPost_ret (resNd rfl rfl (Blk.put6 HXc.out _ _ _ _ _ _) rfl) rfl ?_;rcases HSc.out with ⟨l8,hq8,hg8,hl8,hE8⟩ | ⟨ba,er,t8,r8,he8,hE8,hq8⟩
 ·exact q7u (lo:=w.heap.size+1) (s:=[]) hlt (Nat.lt_succ_self _) (q4u (lo:=w.heap.size+1) HLc.out V0 ⟨V0,V0,V0⟩ 6 t.at_) (hE8 _ (q09 _)) hq8 hg8 VD HUc.out
 ·exact q1A 6 t.at_ 0 0 0 _ _ [] none _ hlt he8 hE8 hq8 HUc.out
theorem st_public(w:World)(bp:Nat)(t:Tk)(r:List Tk)(hp:QS w bp (t :: r) 0 0)(hg:Gt (t :: r))(n0:isS [115,101,99,114,101,116] t=false)(y:isS [112,117,98,108,105,99] t=true) :
  Calls Tryz.prog 26 #[.pointer (some ⟨bp,0,none⟩)] w (OutQ w bp (t :: r) (Rd numV .stmt 0 (t :: r))):=by
 have HR:=Hi fun (o:Out)=>q7d (k:=7) (a:=t.at_) (t:=t) (r:=r) (o:=o) fun f=>by rw [st_,if_neg (by rw [n0];decide),if_pos y]
 obtain ⟨w0,hw0,hb0,hB⟩:=q06 w;have hlt:=hp.lt;have hfw:=hg.few;simp only [List.length_cons] at hfw;have HT:=Hi (tok w0 bp 0 0 t r (hp.below hb0));have HP0:=Hi (hp.below hb0);have HGR:=Hi (hg.tail (q1J y));have HNE:=Hi (q51 hg (q1J y));have HY:=Hi y;have N0:=Hi n0;have HB0:=Hi hb0;have HB:=Hi hB;have HW:=Hi hw0;have hbl:=hB.lt;clear hb0 hB hp hw0 hg y n0;go_enter Tryz.func26,Tryz.ntmps26;go_wp2_with fail
 rw [HW.out];refine HT.out.mono ?_;rintro e w1 ⟨rfl,hb1⟩;have h01:=hb1.size;have HP1:=Hi (HP0.out.below hb1);have HU1:=Hi ((q00 (bp:=bp) HB0.out).trans (q00 hb1));have HX1:=Hi (HB.out.below hb1 HB.out.lt);clear hb1 HT HP0;go_wp2_with fail
 refine (q04 w1 bp 0 0 t r [115,101,99,114,101,116] HP1.out (.inr N0.out)).mono ?_;rintro e w2 ⟨rfl,hb2⟩;have h12:=hb2.size;have HP2:=Hi (HP1.out.below hb2);have HU2:=Hi (HU1.out.trans (q00 hb2));have HX2:=Hi (HX1.out.below hb2 HX1.out.lt);clear hb2 HP1 HU1 HX1;go_wp2_with fail
 refine (q0A w2 bp t r [112,117,98,108,105,99] HP2.out HY.out HNE.out).mono ?_;rintro e wa ⟨rfl,hpa,hua⟩;have HSa:Hid (SC wa bp r.length (NmK [] fun ps _ r1=>must [59] r1 fun r2=>some (.ok [.mk 7 t.at_ [] 0 ps []] r2)) (Rd numV .stmt 0 (t :: r))):=Hi (.inl ⟨r,hpa,HGR.out,Nat.le_refl _,fun o ho=>HR.out o ho⟩);have h1a:=hua.size;have HUa:=Hi (HU2.out.trans hua);have HXa:=Hi (HX2.out.upd hua (show ¬ w.heap.size=bp from V0));clear hpa hua HP2 HU2 HX2;go_wp2_with fail
 refine (q7c wa bp r.length V0 _ _ HSa.out).mono ?_;rintro e wb ⟨ps,gp,cp,rfl,hLb,hgb,hplen,hsb,hub,hstb⟩;have hab:=hub.size;have HSb:=Hi hsb;have HLb:=Hi hLb;have HUb:=Hi (HUa.out.trans hub);have HXb:=Hi (HXa.out.upd hub (show ¬ w.heap.size=bp from V0));clear hsb hub hstb hLb HSa HUa HXa;go_wp2_with fail
 refine (q3d wb bp _ _ (fun _ r2=>some (.ok [.mk 7 t.at_ [] 0 ps []] r2)) _ HSb.out).mono ?_;rintro e wc ⟨rfl,hsc,huc,hstc⟩;have hbc:=huc.size;have hx:=HXb.out.upd huc (show ¬ w.heap.size=bp from V0);obtain ⟨⟨e0,e1,e2,e3,e4,e5⟩,z0,z1,z2,z3,z4,z5⟩:=Blk.c6 hx;have hxl:=hx.lt;have HSc:=Hi hsc;have HUc:=Hi (HUb.out.trans huc);have HXc:=Hi hx;have HLc:=Hi (huc.lies HLb.out fun b o e _ hx=>Va);clear hsc huc hstc hx HSb HUb HXb HLb;go_wp2_with fail
 refine bodyPost_ret (resNd rfl rfl (Blk.put6 HXc.out _ _ _ _ _ _) rfl) rfl ?_;rcases HSc.out with ⟨l8,hq8,hg8,hl8,hE8⟩ | ⟨ba,er,t8,r8,he8,hE8,hq8⟩
 ·exact q7u (lo:=w.heap.size+1) (s:=[]) hlt (Nat.lt_succ_self _) (q4u (lo:=w.heap.size+1) HLc.out V0 ⟨V0,V0,V0⟩ 7 t.at_) (hE8 _ (q09 _)) hq8 hg8 VD HUc.out
 ·exact q1A 7 t.at_ 0 0 0 _ _ [] none _ hlt he8 hE8 hq8 HUc.out
theorem st_out(w:World)(bp:Nat)(t:Tk)(r:List Tk)(hp:QS w bp (t :: r) 0 0)(hg:Gt (t :: r))(n0:isS [115,101,99,114,101,116] t=false)(n1:isS [112,117,98,108,105,99] t=false)(y:isS [111,117,116] t=true) :
  Calls Tryz.prog 26 #[.pointer (some ⟨bp,0,none⟩)] w (OutQ w bp (t :: r) (Rd numV .stmt 0 (t :: r))):=by
 have HR:=Hi fun (o:Out)=>q90 (k:=8) (a:=t.at_) (t:=t) (r:=r) (o:=o) fun f=>by rw [st_,if_neg (by rw [n0];decide),if_neg (by rw [n1];decide),if_pos y]
 obtain ⟨w0,hw0,hb0,hB⟩:=q06 w;have hlt:=hp.lt;have hfw:=hg.few;simp only [List.length_cons] at hfw;have HT:=Hi (tok w0 bp 0 0 t r (hp.below hb0));have HP0:=Hi (hp.below hb0);have HGR:=Hi (hg.tail (q1J y));have HNE:=Hi (q51 hg (q1J y));have HY:=Hi y;have N0:=Hi n0;have N1:=Hi n1;have HB0:=Hi hb0;have HB:=Hi hB;have HW:=Hi hw0;have hbl:=hB.lt;clear hb0 hB hp hw0 hg y n0 n1;go_enter Tryz.func26,Tryz.ntmps26;go_wp2_with fail
 rw [HW.out];refine HT.out.mono ?_;rintro e w1 ⟨rfl,hb1⟩;have h01:=hb1.size;have HP1:=Hi (HP0.out.below hb1);have HU1:=Hi ((q00 (bp:=bp) HB0.out).trans (q00 hb1));have HX1:=Hi (HB.out.below hb1 HB.out.lt);clear hb1 HT HP0;go_wp2_with fail
 refine (q04 w1 bp 0 0 t r [115,101,99,114,101,116] HP1.out (.inr N0.out)).mono ?_;rintro e w2 ⟨rfl,hb2⟩;have h12:=hb2.size;have HP2:=Hi (HP1.out.below hb2);have HU2:=Hi (HU1.out.trans (q00 hb2));have HX2:=Hi (HX1.out.below hb2 HX1.out.lt);clear hb2 HP1 HU1 HX1;go_wp2_with fail
 refine (q04 w2 bp 0 0 t r [112,117,98,108,105,99] HP2.out (.inr N1.out)).mono ?_;rintro e w3 ⟨rfl,hb3⟩;have h23:=hb3.size;have HP3:=Hi (HP2.out.below hb3);have HU3:=Hi (HU2.out.trans (q00 hb3));have HX3:=Hi (HX2.out.below hb3 HX2.out.lt);clear hb3 HP2 HU2 HX2;go_wp2_with fail
 refine (q0A w3 bp t r [111,117,116] HP3.out HY.out HNE.out).mono ?_;rintro e wa ⟨rfl,hpa,hua⟩;have HSa:Hid (SC wa bp r.length (fun f l=>nameK l fun s r1=>must [61] r1 fun r2=>FinK f 8 t.at_ s [] 0 r2) (Rd numV .stmt 0 (t :: r))):=Hi (.inl ⟨r,hpa,HGR.out,Nat.le_refl _,fun o ho=>HR.out o ho⟩);have h1a:=hua.size;have HUa:=Hi (HU3.out.trans hua);have HXa:=Hi (HX3.out.upd hua (show ¬ w.heap.size=bp from V0));clear hpa hua HP3 HU3 HX3;go_wp2_with fail
 refine (q5B wa bp _ _ _ HSa.out).mono ?_;rintro e wb ⟨sn,rfl,hsb,hub,hstb⟩;have hab:=hub.size;have HSb:=Hi hsb;have HUb:=Hi (HUa.out.trans hub);have HXb:=Hi (HXa.out.upd hub (show ¬ w.heap.size=bp from V0));clear hsb hub hstb HSa HUa HXa;go_wp2_with fail
 refine (q3d wb bp _ _ _ _ HSb.out).mono ?_;rintro e wx ⟨rfl,hsx,hux,hstx⟩;have hbx:=hux.size;have HSx:=Hi hsx;have HUx:=Hi (HUb.out.trans hux);have HXx:=Hi (HXb.out.upd hux (show ¬ w.heap.size=bp from V0));clear hsx hux hstx HSb HUb HXb;go_wp2_with fail
 refine (ex_u wx bp _ 0 (fun xs f r=>must [59] r fun r'=>some (.ok [.mk 8 t.at_ sn 0 [] xs] r')) _ HSx.out).mono ?_;rintro e w6 ⟨k,a,s,m,A,la,cA,B,lb,cB,x,rfl,hT,hS,hU,_⟩;obtain ⟨w7,hw7,hb7,hbn⟩:=alK w6 #[.int .i64 (k:Int),.string ⟨s.toArray⟩,.int .u32 (m:Int),.int .i64 (a:Int),.slice A la cA,.slice B lb cB] 26;have hx6:=hU.size;have h67:=hbn.lt;have HT6:=Hi hT;have HS7:=Hi (hS.below hb7);have HST:=Hi (hS.stay hb7);have HU7:=Hi ((HUx.out.trans hU).trans (q00 hb7));have HX7:=Hi ((HXx.out.upd hU (show ¬ w.heap.size=bp from V0)).below hb7 V0);have HB7:=Hi hb7;have HW7:=Hi hw7;have HBN:=Hi hbn;clear hT hS hU hb7 hw7 hbn HSx HUx HXx;go_wp2_with fail
 rw [HW7.out];refine (q3d w7 bp _ _ _ _ HS7.out).mono ?_;rintro e w8 ⟨rfl,hs8,hu8,hst8⟩;have h78:=hu8.size;have hn8:=HBN.out.upd hu8 (show ¬ w6.heap.size=bp from V0);obtain ⟨⟨g0,g1,g2,g3,g4,g5⟩,x0,x1,x2,x3,x4,x5⟩:=Blk.c6 hn8;have hn8l:=hn8.lt;have HS8:=Hi hs8;have HST8:=Hi hst8;have HU8:=Hi (HU7.out.trans hu8);have HX8:=Hi (HX7.out.upd hu8 (show ¬ w.heap.size=bp from V0));have HU78:=Hi hu8;clear hs8 hu8 hst8 hn8 HS7 HU7 HX7;go_wp2_with fail
 obtain ⟨w9,hw9,hb9,-⟩:=alK w8 #[.int .i64 (k:Int),.string ⟨s.toArray⟩,.int .u32 (m:Int),.int .i64 (a:Int),.slice A la cA,.slice B lb cB] 26;rw [hw9];refine (node w9 8 t.at_ sn _ 1 1).mono ?_;rintro e w10 ⟨rfl,hb10⟩;have hb89:Below w8.heap.size w8 w10:=hb9.trans (hb10.mono hb9.size);have hx:=HX8.out.below hb89 HX8.out.lt;obtain ⟨⟨e0,e1,e2,e3,e4,e5⟩,z0,z1,z2,z3,z4,z5⟩:=Blk.c6 hx;have H1:=Hi hx;have HB8:=Hi hb89;have HB10:=Hi hb10;have HW9:=Hi hw9;clear hx hb89 hb9 hb10 hw9 g0 g1 g2 g3 g4 g5 x0 x1 x2 x3 x4 x5;go_wp2_with fail
 refine bodyPost_ret (resNd rfl rfl (Blk.put6 H1.out _ _ _ _ _ _) rfl) rfl ?_;have hU10:UB bp w w10:=HU8.out.trans (q00 HB8.out);rcases HS8.out with ⟨l8,hq8,hg8,hl8,hE8⟩ | ⟨ba,er,t8,r8,he8,hE8,hq8⟩
 ·have hz:=HST.out.back (HST8.out.back (q4t hq8));have hT8:TIn (fun b=>w.heap.size+1<=b) w8 x (ndC k a s m A la cA B lb cB):=(((tup (HT6.out hz) (show w.heap.size+1<=wx.heap.size from V0)).upd (Upd.of_below HB7.out fun _=>False) (fun _ _ h=>h)).upd HU78.out fun b hb e=>V0);have hA:=ArrT.first (e:=26) hT8 V0;rw [show w8.alloc (.cells (ndC k a s m A la cA B lb cB).toArray 26)=w9 from HW9.out] at hA;have hN:=(hA.upd (Upd.of_below HB10.out fun _=>False) (fun _ h=>h.elim)).node V3 8 t.at_ 0 sn;exact V3B
 ·exact q1A 8 t.at_ 0 1 1 0 0 sn _ none hlt he8 hE8 (hq8.below HB8.out) hU10
theorem st_show(w:World)(bp:Nat)(t:Tk)(r:List Tk)(hp:QS w bp (t :: r) 0 0)(hg:Gt (t :: r))(n0:isS [115,101,99,114,101,116] t=false)(n1:isS [112,117,98,108,105,99] t=false)(n2:isS [111,117,116] t=false)(y:isS [115,104,111,119] t=true) :
  Calls Tryz.prog 26 #[.pointer (some ⟨bp,0,none⟩)] w (OutQ w bp (t :: r) (Rd numV .stmt 0 (t :: r))):=by
 have HR:=Hi fun (o:Out)=>q90 (k:=9) (a:=t.at_) (t:=t) (r:=r) (o:=o) fun f=>by rw [st_,if_neg (by rw [n0];decide),if_neg (by rw [n1];decide),if_neg (by rw [n2];decide),if_pos y]
 obtain ⟨w0,hw0,hb0,hB⟩:=q06 w;have hlt:=hp.lt;have hfw:=hg.few;simp only [List.length_cons] at hfw;have HT:=Hi (tok w0 bp 0 0 t r (hp.below hb0));have HP0:=Hi (hp.below hb0);have HGR:=Hi (hg.tail (q1J y));have HNE:=Hi (q51 hg (q1J y));have HY:=Hi y;have N0:=Hi n0;have N1:=Hi n1;have N2:=Hi n2;have HB0:=Hi hb0;have HB:=Hi hB;have HW:=Hi hw0;have hbl:=hB.lt;clear hb0 hB hp hw0 hg y n0 n1 n2;go_enter Tryz.func26,Tryz.ntmps26;go_wp2_with fail
 rw [HW.out];refine HT.out.mono ?_;rintro e w1 ⟨rfl,hb1⟩;have h01:=hb1.size;have HP1:=Hi (HP0.out.below hb1);have HU1:=Hi ((q00 (bp:=bp) HB0.out).trans (q00 hb1));have HX1:=Hi (HB.out.below hb1 HB.out.lt);clear hb1 HT HP0;go_wp2_with fail
 refine (q04 w1 bp 0 0 t r [115,101,99,114,101,116] HP1.out (.inr N0.out)).mono ?_;rintro e w2 ⟨rfl,hb2⟩;have h12:=hb2.size;have HP2:=Hi (HP1.out.below hb2);have HU2:=Hi (HU1.out.trans (q00 hb2));have HX2:=Hi (HX1.out.below hb2 HX1.out.lt);clear hb2 HP1 HU1 HX1;go_wp2_with fail
 refine (q04 w2 bp 0 0 t r [112,117,98,108,105,99] HP2.out (.inr N1.out)).mono ?_;rintro e w3 ⟨rfl,hb3⟩;have h23:=hb3.size;have HP3:=Hi (HP2.out.below hb3);have HU3:=Hi (HU2.out.trans (q00 hb3));have HX3:=Hi (HX2.out.below hb3 HX2.out.lt);clear hb3 HP2 HU2 HX2;go_wp2_with fail
 refine (q04 w3 bp 0 0 t r [111,117,116] HP3.out (.inr N2.out)).mono ?_;rintro e w4 ⟨rfl,hb4⟩;have h34:=hb4.size;have HP4:=Hi (HP3.out.below hb4);have HU4:=Hi (HU3.out.trans (q00 hb4));have HX4:=Hi (HX3.out.below hb4 HX3.out.lt);clear hb4 HP3 HU3 HX3;go_wp2_with fail
 refine (q0A w4 bp t r [115,104,111,119] HP4.out HY.out HNE.out).mono ?_;rintro e wa ⟨rfl,hpa,hua⟩;have HSa:Hid (SC wa bp r.length (fun f l=>nameK l fun s r1=>must [61] r1 fun r2=>FinK f 9 t.at_ s [] 0 r2) (Rd numV .stmt 0 (t :: r))):=Hi (.inl ⟨r,hpa,HGR.out,Nat.le_refl _,fun o ho=>HR.out o ho⟩);have h1a:=hua.size;have HUa:=Hi (HU4.out.trans hua);have HXa:=Hi (HX4.out.upd hua (show ¬ w.heap.size=bp from V0));clear hpa hua HP4 HU4 HX4;go_wp2_with fail
 refine (q5B wa bp _ _ _ HSa.out).mono ?_;rintro e wb ⟨sn,rfl,hsb,hub,hstb⟩;have hab:=hub.size;have HSb:=Hi hsb;have HUb:=Hi (HUa.out.trans hub);have HXb:=Hi (HXa.out.upd hub (show ¬ w.heap.size=bp from V0));clear hsb hub hstb HSa HUa HXa;go_wp2_with fail
 refine (q3d wb bp _ _ _ _ HSb.out).mono ?_;rintro e wx ⟨rfl,hsx,hux,hstx⟩;have hbx:=hux.size;have HSx:=Hi hsx;have HUx:=Hi (HUb.out.trans hux);have HXx:=Hi (HXb.out.upd hux (show ¬ w.heap.size=bp from V0));clear hsx hux hstx HSb HUb HXb;go_wp2_with fail
 refine (ex_u wx bp _ 0 (fun xs f r=>must [59] r fun r'=>some (.ok [.mk 9 t.at_ sn 0 [] xs] r')) _ HSx.out).mono ?_;rintro e w6 ⟨k,a,s,m,A,la,cA,B,lb,cB,x,rfl,hT,hS,hU,_⟩;obtain ⟨w7,hw7,hb7,hbn⟩:=alK w6 #[.int .i64 (k:Int),.string ⟨s.toArray⟩,.int .u32 (m:Int),.int .i64 (a:Int),.slice A la cA,.slice B lb cB] 26;have hx6:=hU.size;have h67:=hbn.lt;have HT6:=Hi hT;have HS7:=Hi (hS.below hb7);have HST:=Hi (hS.stay hb7);have HU7:=Hi ((HUx.out.trans hU).trans (q00 hb7));have HX7:=Hi ((HXx.out.upd hU (show ¬ w.heap.size=bp from V0)).below hb7 V0);have HB7:=Hi hb7;have HW7:=Hi hw7;have HBN:=Hi hbn;clear hT hS hU hb7 hw7 hbn HSx HUx HXx;go_wp2_with fail
 rw [HW7.out];refine (q3d w7 bp _ _ _ _ HS7.out).mono ?_;rintro e w8 ⟨rfl,hs8,hu8,hst8⟩;have h78:=hu8.size;have hn8:=HBN.out.upd hu8 (show ¬ w6.heap.size=bp from V0);obtain ⟨⟨g0,g1,g2,g3,g4,g5⟩,x0,x1,x2,x3,x4,x5⟩:=Blk.c6 hn8;have hn8l:=hn8.lt;have HS8:=Hi hs8;have HST8:=Hi hst8;have HU8:=Hi (HU7.out.trans hu8);have HX8:=Hi (HX7.out.upd hu8 (show ¬ w.heap.size=bp from V0));have HU78:=Hi hu8;clear hs8 hu8 hst8 hn8 HS7 HU7 HX7;go_wp2_with fail
 obtain ⟨w9,hw9,hb9,-⟩:=alK w8 #[.int .i64 (k:Int),.string ⟨s.toArray⟩,.int .u32 (m:Int),.int .i64 (a:Int),.slice A la cA,.slice B lb cB] 26;rw [hw9];refine (node w9 9 t.at_ sn _ 1 1).mono ?_;rintro e w10 ⟨rfl,hb10⟩;have hb89:Below w8.heap.size w8 w10:=hb9.trans (hb10.mono hb9.size);have hx:=HX8.out.below hb89 HX8.out.lt;obtain ⟨⟨e0,e1,e2,e3,e4,e5⟩,z0,z1,z2,z3,z4,z5⟩:=Blk.c6 hx;have H1:=Hi hx;have HB8:=Hi hb89;have HB10:=Hi hb10;have HW9:=Hi hw9;clear hx hb89 hb9 hb10 hw9 g0 g1 g2 g3 g4 g5 x0 x1 x2 x3 x4 x5;go_wp2_with fail
 refine bodyPost_ret (resNd rfl rfl (Blk.put6 H1.out _ _ _ _ _ _) rfl) rfl ?_;have hU10:UB bp w w10:=HU8.out.trans (q00 HB8.out);rcases HS8.out with ⟨l8,hq8,hg8,hl8,hE8⟩ | ⟨ba,er,t8,r8,he8,hE8,hq8⟩
 ·have hz:=HST.out.back (HST8.out.back (q4t hq8));have hT8:TIn (fun b=>w.heap.size+1<=b) w8 x (ndC k a s m A la cA B lb cB):=(((tup (HT6.out hz) (show w.heap.size+1<=wx.heap.size from V0)).upd (Upd.of_below HB7.out fun _=>False) (fun _ _ h=>h)).upd HU78.out fun b hb e=>V0);have hA:=ArrT.first (e:=26) hT8 V0;rw [show w8.alloc (.cells (ndC k a s m A la cA B lb cB).toArray 26)=w9 from HW9.out] at hA;have hN:=(hA.upd (Upd.of_below HB10.out fun _=>False) (fun _ h=>h.elim)).node V3 9 t.at_ 0 sn;exact V3B
 ·exact q1A 9 t.at_ 0 1 1 0 0 sn _ none hlt he8 hE8 (hq8.below HB8.out) hU10
end
section
attribute [local go_sem] fTk0 fTk1 fTk2
theorem q52(w:World)(cs:Array Value):∃ w0,(w.alloc (.cells cs 26)).alloc (.cells zNd 26)=w0/\Below w.heap.size w w0/\Blk w0 w.heap.size 26 cs/\Blk w0 (w.heap.size+1) 26 zNd:=by
 have hs:(w.alloc (.cells cs 26)).heap.size=w.heap.size+1:=V3;refine ⟨_,rfl,((Below.refl _ _).alloc (Nat.le_refl _) _).alloc V3 _,(Blk.new _ _ _).alloc _,?_⟩;rw [<-hs];exact Blk.new _ _ _
theorem done_ok(w:World)(bp:Nat)(t:Tk)(r:List Tk)(hp:QS w bp (t :: r) 0 0)(hk:t.k = 0)(k a n la cA lb cB:Nat)(s:Bs)(A B:Option Addr) :
  Calls Tryz.prog 27 #[.pointer (some ⟨bp,0,none⟩),.agg #[.int .i64 (k:Int),.string ⟨s.toArray⟩,.int .u32 (n:Int),.int .i64 (a:Int),.slice A la cA,.slice B lb cB]] w fun e w'=>
   e = .returned (.tuple #[.agg #[.int .i64 (k:Int),.string ⟨s.toArray⟩,.int .u32 (n:Int),.int .i64 (a:Int),.slice A la cA,.slice B lb cB],.int .i64 0,.int .i64 0])/\Below w.heap.size w w':=by
 obtain ⟨w0,hw0,hb0,hX,hY⟩:=q52 w #[.int .i64 (k:Int),.string ⟨s.toArray⟩,.int .u32 (n:Int),.int .i64 (a:Int),.slice A la cA,.slice B lb cB];have HT:=Hi (tok w0 bp 0 0 t r (hp.below hb0));have HP0:=Hi (hp.below hb0);have HB0:=Hi hb0;have HX:=Hi hX;have HY:=Hi hY;have HW:=Hi hw0;have hq:((t.k:Int) != 0)=false:=V4;clear hp hb0 hX hY hw0;go_enter Tryz.func27,Tryz.ntmps27;go_wp2_with fail
 rw [HW.out];refine HT.out.mono ?_;rintro e w1 ⟨rfl,hb1⟩;have HP1:=Hi (HP0.out.below hb1);have HBD:=Hi (q0r w1 bp 0 0 100 false t r HP1.out (.inl rfl));have hx:=HX.out.below hb1 HX.out.lt;have hy:=HY.out.below hb1 HY.out.lt;have HB1:=Hi (HB0.out.trans (hb1.mono HB0.out.size));obtain ⟨⟨e0,e1,e2,e3,e4,e5⟩,z0,z1,z2,z3,z4,z5⟩:=Blk.c6 hx;obtain ⟨⟨g0,g1,g2,g3,g4,g5⟩,y0,y1,y2,y3,y4,y5⟩:=Blk.c6 hy;have hxl:=hx.lt;have hyl:=hy.lt;obtain ⟨b',o,c,n',hn,hl,hc,hm,⟨c0,c1,c2,c3⟩,⟨u0,u1,u2,u3⟩,f4,f5,f6⟩:=HP1.out.head;have hbl:=HP1.out.lt;have HY1:=Hi hy;clear hx hy hb1 hn hl hc hm f4 f5 f6;go_wp2_with fail
 refine HBD.out.mono ?_;rintro e w' ⟨rfl,rfl⟩;go_wp2_with fail
 exact bodyPost_ret (v:=.tuple #[.agg #[.int .i64 (k:Int),.string ⟨s.toArray⟩,.int .u32 (n:Int),.int .i64 (a:Int),.slice A la cA,.slice B lb cB],.int .i64 0,.int .i64 0]) (q1l rfl _ _ rfl (Blk.put6 HY1.out _ _ _ _ _ _) rfl rfl rfl) rfl ⟨rfl,((((((HB1.out.setCell (Nat.le_succ _) _).setCell (Nat.le_succ _) _).setCell (Nat.le_succ _) _).setCell (Nat.le_succ _) _).setCell (Nat.le_succ _) _).setCell (Nat.le_succ _) _)⟩
end
end Pq
end Go.Proofs.YtcgibpdjfgjldaaGreatDoor
