/- DERIVED. RqEe, RqSc, RqLe, RqGo, PaUn, PaPr. By an AI agent. -/
import Derived.Test.YtcgibpdjfgjldaaGreatDoorT33
set_option maxRecDepth 100000
set_option maxHeartbeats 8000000
set_option linter.unusedVariables false
set_option linter.unusedSimpArgs false
open Go Go.ChangeShapes Go.WideShapes Go.ChangeAt Go.RowKit
namespace Go.Proofs.YtcgibpdjfgjldaaGreatDoor
namespace Pq
open Lx Args Pa
section
attribute [local go_sem] fTk0 fTk1 fTk2
theorem lev5{M:Nat}(H:UnC M):LvQ 5 M:=by
 intro w bp d l hl hp hg;obtain ⟨w0,hw0,hb0,hB⟩:=q06 w;have hlt:=hp.lt;have HE:=Hi (H w0 bp d l hl (hp.below hb0) hg);have HB0:=Hi hb0;have HB:=Hi hB;have HW:=Hi hw0;have hbl:=hB.lt;clear hb0 hB hp hw0 hg;show Calls Tryz.prog 88 #[.pointer (some ⟨bp,0,none⟩),.int .i64 5,.int .i64 (d:Int)] w _;go_enter Tryz.func88,Tryz.ntmps88;go_wp2_with fail
 rw [HW.out];refine HE.out.mono ?_;rintro e w1 ⟨k,a,s,n,A,la,cA,B,lb,cB,rfl,hU,hO⟩;have h1:=HB.out.upd hU V0;obtain ⟨⟨e0,e1,e2,e3,e4,e5⟩,z0,z1,z2,z3,z4,z5⟩:=Blk.c6 h1;have H1:=Hi h1;have HU1:=Hi ((q00 HB0.out).trans hU);have HO:=Hi hO;clear h1 hU hO;go_wp2_with fail
 refine bodyPost_ret (resNd rfl rfl (Blk.put6 H1.out _ _ _ _ _ _) rfl) rfl ?_;exact q8H hlt HB.out.lt HU1.out HO.out
theorem un_of{n:Nat}(HU:UnC n)(HE:ExQ n):UnC (n+1):=by
 intro w bp d l hl hp hg;obtain ⟨t,r,rfl⟩:=hg.cons;simp only [List.length_cons] at hl;by_cases hd:60 < d
 ·by_cases hk:t.k = 2
  ·exact q81 w bp d t r hd hp hg hk
  ·exact q82 w bp d t r hd hp hg hk
 have hd':d<=60:=V0;by_cases h126:isS [126] t=true
 ·exact un_not HU w bp d t r V0 hd' hp hg h126
 have h126':isS [126] t=false:=by simpa using h126
 by_cases h45:isS [45] t=true
 ·exact un_neg HU w bp d t r V0 hd' hp hg h126' h45
 have h45':isS [45] t=false:=by simpa using h45
 by_cases hk:t.k = 2
 ·rcases q6M (if Lib.hasPrefix t.s [48,120]=true then 16 else 10) (Lib.trimPrefix t.s [48,120]) with h | h | h
  ·exact un_num0 w bp d t r hd' hp hg hk h
  ·exact un_num2 w bp d t r hd' hp hg hk h
  ·exact un_num4 w bp d t r hd' hp hg hk h
 by_cases h40:isS [40] t=true
 ·exact un_par HE w bp d t r V0 hd' hp hg h40
 have h40':isS [40] t=false:=by simpa using h40
 by_cases hk1:t.k = 1
 ·obtain ⟨u,q,rfl⟩:=q6O hg.et V0;simp only [List.length_cons] at hl;by_cases hu:isS [40] u=true
  ·exact un_call HE w bp d t u q V0 hd' hp hg hk1 hu
  ·exact un_name w bp d t u q hd' hp hg hk1 V0y
 ·exact q5M w bp d t r hd' hp h126' h45' hk h40' hk1
theorem ex_of{n:Nat}(H:LvQ 0 n):ExQ n:=by
 intro w bp d l hl hp hg;obtain ⟨t,r,rfl⟩:=hg.cons;by_cases hd:60 < d
 ·exact ex_deep w bp d t r hp hd
 ·exact ex_at w bp d t r hp V0 fun w0 h0=>H w0 bp d (t :: r) hl h0 hg
theorem levs_of{n:Nat}(H:UnC n):LvQ 0 n:=by
 have h5:=lev5 H;have h4:LvQ 4 n:=fun w bp d l=>lev4 h5 w bp d l
 have h3:LvQ 3 n:=fun w bp d l=>lev3 h4 w bp d l
 have h2:LvQ 2 n:=fun w bp d l=>lev2 h3 w bp d l
 have h1:LvQ 1 n:=fun w bp d l=>lev1 h2 w bp d l
 exact fun w bp d l=>lev0 h1 w bp d l
theorem ex_all:∀ n,UnC n/\ExQ n:=by
 intro n
 induction n with
 | zero=>
  refine ⟨fun w bp d l hl hp hg=>?_,fun w bp d l hl hp hg=>?_⟩
  all_goals
   obtain ⟨t,r,rfl⟩:=hg.cons;simp at hl
 | succ n ih=>
  have h:=un_of ih.1 ih.2;exact ⟨h,ex_of (levs_of h)⟩
theorem ex(w:World)(bp d:Nat)(l:List Tk)(hp:QS w bp l 0 0)(hg:Gt l) :
  Calls Tryz.prog 46 #[.pointer (some ⟨bp,0,none⟩),.int .i64 (d:Int)] w (OutQ w bp l (Rd numV (.lev 0) d l)):=
 (ex_all l.length).2 w bp d l (Nat.le_refl _) hp hg
end
def whyQ(w:World)(bp:Nat):Int:=match w.cell? ⟨bp,3,none⟩ with
 | some (.int _ z)=>z
 | _=>0
theorem QS.why{w:World}{bp ba wy:Nat}{l:List Tk}(h:QS w bp l ba wy):whyQ w bp=(wy:Int):=by
 obtain ⟨b,o,c,pre,_,h1,_⟩:=h;unfold whyQ;rw [show w.cell? ⟨bp,3,none⟩=some (.int .i64 (wy:Int)) from h1.cell 3]
def SC(w:World)(bp n:Nat)(G:Nat->List Tk->OO)(E:Out->Prop):Prop:=
 (∃ l,QS w bp l 0 0/\Gt l/\l.length<=n/\∀ o,Ev (fun f=>G f l) o->E o)\/(∃ ba er t r,er≠0/\E (.bad ba er)/\QS w bp (t :: r) ba er)
theorem SC.lt{w:World}{bp n:Nat}{G:Nat->List Tk->OO}{E:Out->Prop}(h:SC w bp n G E):bp < w.heap.size:=by
 rcases h with ⟨l,h,_⟩ | ⟨ba,er,t,r,_,_,h⟩
 ·exact h.lt
 ·exact h.lt
theorem SC.below{w w':World}{bp n:Nat}{G:Nat->List Tk->OO}{E:Out->Prop}(h:SC w bp n G E)(hb:Below w.heap.size w w'):SC w' bp n G E:=by
 rcases h with ⟨l,h,g⟩ | ⟨ba,er,t,r,h1,h2,h⟩
 ·exact .inl ⟨l,h.below hb,g⟩
 ·exact .inr ⟨ba,er,t,r,h1,h2,h.below hb⟩
theorem SC.far{X:Nat->Prop}{w w':World}{bp n:Nat}{G:Nat->List Tk->OO}{E:Out->Prop}(h:SC w bp n G E)(hu:Upd X w w')(hX:∀ b,X b->bp < b):SC w' bp n G E:=by
 rcases h with ⟨l,h,g⟩ | ⟨ba,er,t,r,h1,h2,h⟩
 ·exact .inl ⟨l,h.far hu hX,g⟩
 ·exact .inr ⟨ba,er,t,r,h1,h2,h.far hu hX⟩
theorem SC.why{w:World}{bp n:Nat}{G:Nat->List Tk->OO}{E:Out->Prop}(h:SC w bp n G E)(hw:whyQ w bp = 0):∃ l,QS w bp l 0 0/\Gt l/\l.length<=n/\∀ o,Ev (fun f=>G f l) o->E o:=by
 rcases h with h | ⟨ba,er,t,r,h1,h2,h⟩
 ·exact h
 ·rw [h.why] at hw;omega
def Stay(bp:Nat)(w w':World):Prop:=whyQ w bp≠0->whyQ w' bp≠0
theorem q0A{w w':World}{bp ba:Nat}{l:List Tk}(h:QS w bp l ba 0):Stay bp w w':=fun hw=>absurd h.why hw
theorem q1y{w w':World}{bp ba er:Nat}{l:List Tk}(h:QS w' bp l ba er)(he:er≠0):Stay bp w w':=fun _=>by rw [h.why];omega
theorem q4T{t:Tk}{r:List Tk}(h:Gt (t :: r))(ht:t.k≠0):r≠[]:=by
 obtain ⟨u,q,h2⟩:=(h.tail ht).cons;rw [h2];simp
theorem q37(w:World)(bp n:Nat)(b:Bs)(G:Nat->List Tk->OO)(E:Out->Prop)(h:SC w bp n (fun f l=>must b l (fun r=>G f r)) E) :
  Calls Tryz.prog 55 #[.pointer (some ⟨bp,0,none⟩),.string ⟨b.toArray⟩] w fun e w'=>e=vd/\SC w' bp (n - 1) G E/\UB bp w w'/\Stay bp w w':=by
 rcases h with ⟨l,hq,hg,hl,hE⟩ | ⟨ba,er,t,r,he,hE,hq⟩
 ·obtain ⟨t,r,rfl⟩:=hg.cons;simp only [List.length_cons] at hl;by_cases hb:isS b t=true
  ·refine (must_yes w bp t r b hq hb (q4T hg (q1H hb))).mono ?_;rintro e w' ⟨rfl,hp,hu⟩;exact ⟨rfl,.inl ⟨r,hp,hg.tail (q1H hb),V0,fun o ho=>hE o (q0s ho fun f=>q0B hb _)⟩,hu,q0A hq⟩
  ·have hb':isS b t=false:=by simpa using hb
   refine (must_no w bp t r b hq hb').mono ?_;rintro e w' ⟨rfl,hp,hu⟩;exact ⟨rfl,.inr ⟨t.at_,100,t,r,V2,hE _ (q0s (q09 _) fun f=>q1n hb' _),hp⟩,hu,q0A hq⟩
 ·refine (q2O w bp ba er t r b hq he).mono ?_;rintro e w' ⟨rfl,hb⟩;exact ⟨rfl,.inr ⟨ba,er,t,r,he,hE,hq.below hb⟩,q00 hb,q1y (hq.below hb) he⟩
theorem q5x(w:World)(bp n:Nat)(G:Bs->Nat->List Tk->OO)(E:Out->Prop)(h:SC w bp n (fun f l=>nameK l (fun s r=>G s f r)) E) :
  Calls Tryz.prog 56 #[.pointer (some ⟨bp,0,none⟩)] w fun e w'=>∃ s:Bs,e = .returned (.string ⟨s.toArray⟩)/\SC w' bp (n - 1) (G s) E/\UB bp w w'/\Stay bp w w':=by
 rcases h with ⟨l,hq,hg,hl,hE⟩ | ⟨ba,er,t,r,he,hE,hq⟩
 ·obtain ⟨t,r,rfl⟩:=hg.cons;simp only [List.length_cons] at hl;by_cases hk:t.k = 1
  ·refine (name_yes w bp t r hq hk (q4T hg V0)).mono ?_;rintro e w' ⟨rfl,hp,hu⟩;exact ⟨t.s,rfl,.inl ⟨r,hp,hg.tail V0,V0,fun o ho=>hE o (q0s ho fun f=>q1o hk _)⟩,hu,q0A hq⟩
  ·refine (name_no w bp t r hq hk).mono ?_;rintro e w' ⟨rfl,hp,hu⟩;exact ⟨t.s,rfl,.inr ⟨t.at_,100,t,r,V2,hE _ (q0s (q09 _) fun f=>q34 hk _),hp⟩,hu,q0A hq⟩
 ·refine (q4q w bp ba er t r hq he).mono ?_;rintro e w' ⟨rfl,hb⟩;exact ⟨t.s,rfl,.inr ⟨ba,er,t,r,he,hE,hq.below hb⟩,q00 hb,q1y (hq.below hb) he⟩
def ExU(w:World)(bp n:Nat)(G:List Tr->Nat->List Tk->OO)(E:Out->Prop)(e:Ending)(w':World):Prop:=
 ∃ k a s m A la cA B lb cB x,e = .returned (.agg #[.int .i64 (k:Nat),.string ⟨(s:Bs).toArray⟩,.int .u32 (m:Nat),.int .i64 (a:Nat),.slice A la cA,.slice B lb cB]) /\
  (whyQ w' bp = 0->TIn (fun b=>w.heap.size<=b) w' x (ndC k a s m A la cA B lb cB))/\SC w' bp (n - 1) (G [x]) E/\UB bp w w'/\Stay bp w w'
theorem ex_u(w:World)(bp n d:Nat)(G:List Tr->Nat->List Tk->OO)(E:Out->Prop)(h:SC w bp n (fun f l=>bnd (pF numV f (.lev 0) d l) (fun xs r=>G xs f r)) E) :
  Calls Tryz.prog 46 #[.pointer (some ⟨bp,0,none⟩),.int .i64 (d:Int)] w (ExU w bp n G E):=by
 rcases h with ⟨l,hq,hg,hl,hE⟩ | ⟨ba,er,t,r,he,hE,hq⟩
 ·refine (ex w bp d l hq hg).mono ?_;rintro e w' ⟨k,a,s,m,A,la,cA,B,lb,cB,rfl,hU,hO⟩;rcases hO with ⟨x,r,hT,hR,hP,hG,hr⟩ | ⟨ba,er,t,r,he,hR,hP⟩
  ·exact ⟨k,a,s,m,A,la,cA,B,lb,cB,x,rfl,fun _=>hT,.inl ⟨r,hP,hG,V0,fun o ho=>hE o (q0y (K:=fun f xs r=>G xs f r) hR ho)⟩,hU,q0A hq⟩
  ·refine ⟨k,a,s,m,A,la,cA,B,lb,cB,.mk 0 0 [] 0 [] [],rfl,fun hw=>?_,.inr ⟨ba,er,t,r,he,hE _ (q10 (K:=fun f xs r=>G xs f r) hR),hP⟩,hU,q0A hq⟩;rw [hP.why] at hw;omega
 ·refine (ex_dead w bp ba er d t r hq he).mono ?_;rintro e w' ⟨rfl,hb⟩;refine ⟨0,0,[],0,none,0,0,none,0,0,.mk 0 0 [] 0 [] [],rfl,fun hw=>?_,.inr ⟨ba,er,t,r,he,hE,hq.below hb⟩,q00 hb,q1y (hq.below hb) he⟩;rw [(hq.below hb).why] at hw;omega
section
attribute [local go_sem] fTk0 fTk1 fTk2
theorem ev_up{K K':Nat->OO}{o:Out}(h:Ev K o)(he:∀ f,K' (f+1)=K f):Ev K' o:=by
 obtain ⟨g,hg⟩:=h;refine ⟨g+1,fun f hf=>?_⟩;obtain ⟨j,rfl⟩:∃ j,f=j+1:=⟨f - 1,V0⟩;rw [he];exact hg j V0
def FinK(f k a:Nat)(s:Bs)(ps:List Bs)(d:Nat)(l:List Tk):OO:=bnd (pF numV f (.lev 0) d l) fun xs r=>must [59] r fun r'=>some (.ok [.mk k a s 0 ps xs] r')
theorem set_fin(f k a d:Nat)(l:List Tk):SetK numV (f+1) k a d l=(nameK l fun s r1=>must [61] r1 fun r2=>FinK f k a s [] d r2):=rfl
theorem SC.stay{w w':World}{bp n:Nat}{G:Nat->List Tk->OO}{E:Out->Prop}(h:SC w bp n G E)(hb:Below w.heap.size w w'):Stay bp w w':=by
 rcases h with ⟨l,h,g⟩ | ⟨ba,er,t,r,h1,h2,h⟩
 ·exact q0A h
 ·exact q1y (h.below hb) h1
theorem Stay.back{bp:Nat}{w w':World}(h:Stay bp w w')(h0:whyQ w' bp = 0):whyQ w bp = 0:=by
 by_cases h1:whyQ w bp = 0
 ·exact h1
 ·exact absurd h0 (h h1)
theorem q4r{w:World}{bp ba:Nat}{l:List Tk}(h:QS w bp l ba 0):whyQ w bp = 0:=h.why
end
section
attribute [local go_sem] fTk0 fTk1 fTk2
def Gk(b:Bs)(A B:Nat->List Tk->OO)(f:Nat)(l:List Tk):OO:=match l with
 | []=>none
 | t :: r=>if isS b t=true then A f r else B f (t :: r)
theorem SC.imp{w:World}{bp n:Nat}{G G':Nat->List Tk->OO}{E:Out->Prop}(h:SC w bp n G E)(he:∀ f l,Gt l->G' f l=G f l):SC w bp n G' E:=by
 rcases h with ⟨l,h1,h2,h3,h4⟩ | h
 ·exact .inl ⟨l,h1,h2,h3,fun o ho=>h4 o (q0s ho fun f=>(he f l h2).symm)⟩
 ·exact .inr h
theorem SC.le{w:World}{bp n m:Nat}{G:Nat->List Tk->OO}{E:Out->Prop}(h:SC w bp n G E)(hm:n<=m):SC w bp m G E:=by
 rcases h with ⟨l,h1,h2,h3,h4⟩ | h
 ·exact .inl ⟨l,h1,h2,V0,h4⟩
 ·exact .inr h
theorem SC.me{w:World}{bp n:Nat}{G:Nat->List Tk->OO}{E:Out->Prop}(h:SC w bp n G E):meQ w bp<=n+1:=by
 rcases h with ⟨l,h1,h2,h3,h4⟩ | ⟨ba,er,t,r,he,_,h⟩
 ·rw [h1.me];omega
 ·rw [h.me0 he];omega
theorem goes_u(w:World)(bp n:Nat)(b:Bs)(A B:Nat->List Tk->OO)(E:Out->Prop)(h:SC w bp n (Gk b A B) E) :
  Calls Tryz.prog 53 #[.pointer (some ⟨bp,0,none⟩),.string ⟨b.toArray⟩] w fun e w'=>
   (e = .returned (.bool true)/\(∃ l,QS w' bp l 0 0/\Gt l/\l.length+1<=n/\l.length+1 < meQ w bp/\∀ o,Ev (fun f=>A f l) o->E o)/\UB bp w w'/\Stay bp w w')\/(e = .returned (.bool false)/\SC w' bp n B E/\Below w.heap.size w w'/\Stay bp w w'):=by
 rcases h with ⟨l,hq,hg,hl,hE⟩ | ⟨ba,er,t,r,he,hE,hq⟩
 ·obtain ⟨t,r,rfl⟩:=hg.cons;have hm:=hq.me;simp only [List.length_cons] at hl hm;by_cases hb:isS b t=true
  ·refine (q0z w bp t r b hq hb (q4T hg (q1H hb))).mono ?_;rintro e w' ⟨rfl,hp,hu⟩;exact .inl ⟨rfl,⟨r,hp,hg.tail (q1H hb),V0,V0,fun o ho=>hE o (q0s ho fun f=>if_pos hb)⟩,hu,q0A hq⟩
  ·have hb':isS b t=false:=by simpa using hb
   refine (q04 w bp 0 0 t r b hq (.inr hb')).mono ?_;rintro e w' ⟨rfl,hb2⟩;exact .inr ⟨rfl,.inl ⟨t :: r,hq.below hb2,hg,VD,fun o ho=>hE o (q0s ho fun f=>if_neg hb)⟩,hb2,q0A hq⟩
 ·refine (q04 w bp ba er t r b hq (.inl he)).mono ?_;rintro e w' ⟨rfl,hb⟩;exact .inr ⟨rfl,.inr ⟨ba,er,t,r,he,hE,hq.below hb⟩,hb,q1y (hq.below hb) he⟩
theorem Stay.trans{bp:Nat}{w w1 w2:World}(h:Stay bp w w1)(h2:Stay bp w1 w2):Stay bp w w2:=fun hw=>h2 (h hw)
theorem stay_eq{bp:Nat}{w w':World}(h:whyQ w' bp=whyQ w bp):Stay bp w w':=fun hw=>by rw [h];exact hw
def NmK(ps:List Bs)(G:List Bs->Nat->List Tk->OO)(f:Nat)(l:List Tk):OO:=namesK ps l fun ps r=>G ps f r
def CmK(ps:List Bs)(G:List Bs->Nat->List Tk->OO):Nat->List Tk->OO:=Gk [44] (NmK ps G) (G ps)
theorem nm_k(ps:List Bs)(G:List Bs->Nat->List Tk->OO)(f:Nat)(l:List Tk)(hg:Gt l):nameK l (fun s r=>CmK (ps ++ [s]) G f r)=NmK ps G f l:=by
 obtain ⟨t,r,rfl⟩:=hg.cons;by_cases hk:t.k = 1
 ·obtain ⟨u,q,hr⟩:=(hg.tail V0).cons;subst hr;rw [q1o hk];unfold NmK CmK Gk;by_cases hu:isS [44] u=true
  ·rw [nk_go _ hk hu];exact if_pos hu
  ·rw [q6N _ hk V0y];exact if_neg hu
 ·rw [q34 hk];unfold NmK;rw [nk_no _ hk]
structure NqI(w:World)(bp n:Nat)(G:List Bs->Nat->List Tk->OO)(E:Out->Prop)(ps:List Bs)(g c m:Nat)(W:World):Prop where
 sc:SC W bp m (CmK ps G) E
 own:W.ownsRow w.heap.size 9 1 (.slice (some ⟨g,0,none⟩) ps.length c) ps.length (ps.map strV)
 few:ps.length+m<=n+1
 less:m<=n - 1
 ub:UB bp w W
 stay:Stay bp w W
theorem q84{w w':World}{bp g:Nat}(hb:bp < w.heap.size)(hu:Upd (fun b=>b=g) w w')(hg:bp≠g):whyQ w' bp=whyQ w bp:=by
 unfold whyQ;have h:=hu.block bp hb hg;unfold World.cell?;simp only [h]
theorem q6V(w:World)(bp n:Nat)(hn:n<=4000)(G:List Bs->Nat->List Tk->OO)(E:Out->Prop)(h:SC w bp n (NmK [] G) E) :
  Calls Tryz.prog 54 #[.pointer (some ⟨bp,0,none⟩)] w fun e w'=>∃ ps g c,e = .returned (.slice (some ⟨g,0,none⟩) ps.length c)/\Lies w' (some ⟨g,0,none⟩) (ps.map strV)/\w.heap.size<=g/\(ps.length<=4001/\ps.length<=c/\c<=maxLen)/\SC w' bp (n - 1) (G ps) E/\UB bp w w'/\Stay bp w w':=by
 have hlt:=h.lt;obtain ⟨i0,hi,hz⟩:=Option.map_eq_some_iff.1 infoSt;have hz0:=congrArg (·.1) hz;have hz1:=congrArg (·.2.1) hz;have hz2:=congrArg (·.2.2) hz;have HI:=Hi hi;have HZ0:=Hi hz0;have HZ1:=Hi hz1;have HZ2:=Hi hz2;have HN:=Hi (q5x w bp n (fun s=>CmK [s] G) E (h.imp fun f l hg=>nm_k [] G f l hg));clear hi hz hz0 hz1 hz2 h;go_enter Tryz.func54,Tryz.ntmps54;go_wp2_with fail
 refine HN.out.mono ?_;rintro e w1 ⟨s1,rfl,hs1,hu1,hst1⟩;have HJ:Hid (NqI w bp n G E [s1] w1.heap.size 1 (n - 1) (w1.alloc (.cells #[.string ⟨s1.toArray⟩] 9))):=Hi ⟨hs1.below ((Below.refl _ _).alloc (Nat.le_refl _) _),q1A w1 hu1.size 9 1 1 [.string ⟨s1.toArray⟩] rfl V2,V4,Nat.le_refl _,hu1.alloc _,hst1.trans (hs1.stay ((Below.refl _ _).alloc (Nat.le_refl _) _))⟩;clear hs1 hu1 hst1 HN;go_wp2_with fail
 go_loopw [3] (fun vl wr=>∃ ps g c m,vl = .slice (some ⟨g,0,none⟩) ps.length c/\Hid (NqI w bp n G E ps g c m wr)) (fun _ wr=>meQ wr bp)
 case atStart=>exact ⟨[s1],_,_,_,rfl,HJ⟩
 case round=>
  clear HJ;obtain ⟨ps,g,c,m,rfl,HH⟩:=hrel;have hgs:=q13 HH.out.own;go_wp2_with fail
  refine (goes_u wr bp m [44] _ _ E HH.out.sc).mono ?_;rintro e w2 (⟨rfl,⟨l,hq,hgt,hlm,hme,hE⟩,hu2,hst2⟩ | ⟨rfl,hsc,hb2,hst2⟩)
  ·have HNM:=Hi (q5x w2 bp l.length (fun s=>CmK (ps ++ [s]) G) E (.inl ⟨l,hq,hgt,Nat.le_refl _,fun o ho=>hE o (q0s ho fun f=>(nm_k ps G f l hgt).symm)⟩));have hl0:0 < l.length:=by obtain ⟨t,r,rfl⟩:=hgt.cons;simp
   have HU2:=Hi hu2;have HST2:=Hi hst2;clear hq hgt hE hu2 hst2;go_wp2_with fail
   refine HNM.out.mono ?_;rintro e w5 ⟨sn,rfl,hs5,hu5,hst5⟩;have hu5':UB bp wr w5:=HU2.out.trans hu5;have how:w5.ownsRow w.heap.size 9 1 (.slice (some ⟨g,0,none⟩) ps.length c) ps.length (ps.map strV):=q0X HH.out.own hu5' V0;have HOA:=Hi (World.ownsRow.alloc how (.cells #[.string ⟨sn.toArray⟩] 9));have HLI:=Hi (q0c w5 9 [.string ⟨sn.toArray⟩]);have hsz:w.heap.size<=w5.heap.size:=Nat.le_trans HH.out.ub.size hu5'.size;have HBS:=Hi (show w.heap.size<=(w5.alloc (.cells #[.string ⟨sn.toArray⟩] 9)).heap.size from V4);have hfew:ps.length<=4001:=by have:=HH.out.few;omega
   have HS5:=Hi hs5;have HU5:=Hi hu5';have HST5:=Hi hst5;have HOW:=Hi how;clear hs5 hu5 hu5' hst5 how;go_wp2_with (at_builtin;refine q0l rfl _ _ 24 rfl w.heap.size 9 i0 (.string ⟨#[]⟩) 1 16 Tryz.underlying24 HI.out HZ0.out HZ1.out HZ2.out rfl V2 _ ps.length _ rfl HOA.out ⟨w5.heap.size,0,none⟩ 1 1 [.string ⟨sn.toArray⟩] rfl rfl HLI.out V02 Va V0 HBS.out V2 ?_;intro g8 c8 w8 hE;have HE:=Hi hE;clear hE)
   have hu58:Upd (fun b=>b=g) w5 w8:=((Upd.refl _ w5).alloc _).grown HE.out.grown fun k hk _=>VE
   have hJ8:NqI w bp n G E (ps ++ [sn]) g8 c8 (l.length - 1) w8:=by
    refine ⟨HS5.out.far hu58 fun b hb=>V0,?_,?_,by have:=HH.out.less;omega,?_,?_⟩
    ·rw [List.length_append,List.map_append];exact HE.out.own
    ·have:=HH.out.few;simp only [List.length_append,List.length_cons,List.length_nil];omega
    ·refine ((((HH.out.ub.trans HU5.out).mono fun k hk=>Or.inl hk).trans (hu58.mono fun k hk=>Or.inr hk)):Upd (fun b=>b=bp\/b=g) w w8).fresh fun k hk hs=>?_
     rcases hk with hk | hk
     ·exact hk
     ·subst hk;exact absurd hs V0
    ·exact ((HH.out.stay.trans HST2.out).trans HST5.out).trans (stay_eq (q84 HS5.out.lt hu58 V0))
   have HJ8:=Hi hJ8;clear hJ8 hu58
   go_roundw
   case rel=>exact ⟨ps ++ [sn],g8,c8,_,V0p,HJ8⟩
   case measure=>
    have:=HJ8.out.sc.me;omega
  ·have HSC:=Hi hsc;have HB2:=Hi hb2;have HST2:=Hi hst2;clear hsc hb2 hst2;go_wp2_with fail
   go_ret;have hs:=q6P HH.out.own;have hfew:=HH.out.few;exact ⟨ps,g,c,rfl,hs.1.below HB2.out,hs.2,⟨V0,(Pa.own_cap HH.out.own V0).le,(Pa.own_cap HH.out.own V0).cap⟩,HSC.out.le (by have:=HH.out.less;omega),HH.out.ub.trans (q00 HB2.out),HH.out.stay.trans HST2.out⟩
end
end Pq
namespace Pa
open Lx Args
section
attribute [local go_sem] fTk0 fTk1 fTk2
def UnC(n:Nat):Prop:=∀ (w:World) (bp d:Nat) (l:List Tk),l.length<=n->d<=60->PS w bp l d->Gt l ->
 Calls Tryz.prog 127 #[.pointer (some ⟨bp,0,none⟩)] w (OutP w bp d l (Rd numV (.lev 5) d l))
theorem q85{n:Nat}(H:UnC n)(w:World)(bp d:Nat)(l:List Tk)(hn:l.length<=n)(hd:d<=60)(hp:PS w bp l d)(hg:Gt l) :
  Calls Tryz.prog 160 #[.pointer (some ⟨bp,0,none⟩),.func (.func 127) #[.pointer (some ⟨bp,0,none⟩)] #[]] w (OutP w bp d l (Rd numV (.lev 5) (d+1) l)):=by
 rcases Nat.lt_or_ge d 60 with h | h
 ·exact q4o _ w bp d l h hp fun w0 hp0=>H w0 bp (d+1) l hn V0 hp0 hg
 ·obtain rfl:d = 60:=by omega
  obtain ⟨t,r,rfl⟩:=hg.cons;exact (q1N _ w bp t r hp).mono fun e w' h=>.inr ⟨_,_,h.1,q3w V0,h.2⟩
def K3(g:Nat)(t:Tk)(w:World):Prop:=w.cell? ⟨g,0,none⟩=some (.int .i64 (t.k:Int))/\w.cell? ⟨g,1,none⟩=some (.string ⟨t.s.toArray⟩)/\w.cell? ⟨g,2,none⟩=some (.int .i64 (t.at_:Int))
theorem K3.of{g:Nat}{t:Tk}{w:World}{ty:TypeId}(h:Blk w g ty #[.int .i64 (t.k:Int),.string ⟨t.s.toArray⟩,.int .i64 (t.at_:Int)]):K3 g t w:=⟨h.cell 0,h.cell 1,h.cell 2⟩
theorem q6W{lo:Nat}{w1:World}{x:Tr}{cs:List Value}(hT:TIn (fun b=>lo<=b) w1 x cs)(hlo:lo<=w1.heap.size)(e:TypeId)(k a:Nat)(s:Bs) :
  TIn (fun b=>lo<=b) (w1.alloc (.cells cs.toArray e)) (.mk k a s 0 [] [x]) (ndC k a s 0 (some ⟨w1.heap.size,0,none⟩) 1 1 none 0 0):=
 (ArrT.first (e:=e) hT hlo).node V3 k a 0 s
theorem q86{n:Nat}(H:UnC n)(w:World)(bp d:Nat)(t:Tk)(r:List Tk)(hn:r.length<=n)(hd:d<=60)(hp:PS w bp (t :: r) d)(hg:Gt (t :: r))(ht:(isS [126] t || isS [45] t)=true) :
  Calls Tryz.prog 127 #[.pointer (some ⟨bp,0,none⟩)] w (OutP w bp d (t :: r) (Rd numV (.lev 5) d (t :: r))):=by
 have hlt:=hp.lt;have hk:t.k≠0:=fun h=>by rw [q0q V0,q0q V0] at ht;cases ht
 have hgr:=hg.tail hk;obtain ⟨t2,r2,hr2⟩:=hgr.cons;have hne:r≠[]:=Vi;obtain ⟨w0,hw0,hb0,hB⟩:=alK w #[.int .i64 0,.string ⟨#[]⟩,.int .u32 0,.int .i64 0,.slice none 0 0,.slice none 0 0] 26;have hp0:=hp.below hb0;have HI1:=Hi (is_ w0 bp d t r [126] hp0);have HI2:=Hi fun (w':World) (hb:Below w0.heap.size w0 w')=>is_ w' bp d t r [45] (hp0.below hb)
 have HTK:=Hi fun (w':World) (hb:Below w0.heap.size w0 w')=>take w' bp d t r (hp0.below hb) hne
 have HB0:=Hi hb0;have HB:=Hi hB;have HW:=Hi hw0;have HGR:=Hi hgr;have hcase:((t.s==[126])=true)\/((t.s==[126])=false/\(t.s==[45])=true):=by
  rw [q0n hg.hd V2,q0n hg.hd V2] at ht;cases h1:(t.s==[126])
  ·rw [h1] at ht;exact .inr ⟨rfl,by simpa using ht⟩
  ·exact .inl rfl
 have HTT:=Hi ht;clear hb0 hp hp0 hw0 hB hgr hr2 hg ht hk hne;rcases hcase with hc | ⟨hc,hc2⟩
 ·rw [hc] at HI1;clear hc HI2;go_enter Tryz.func127,Tryz.ntmps127;go_wp2_with fail
  rw [HW.out];refine HI1.out.mono ?_;rintro e w1 ⟨rfl,hb1⟩;have HT1:=Hi (HTK.out w1 hb1);have HU1:=Hi ((q00 (bp:=bp) HB0.out).trans (q00 hb1));have HBX:=Hi (HB.out.below hb1 HB.out.lt);clear hb1 HI1 HTK;exact V28
 ·rw [hc] at HI1;go_enter Tryz.func127,Tryz.ntmps127;go_wp2_with fail
  rw [HW.out];refine HI1.out.mono ?_;rintro e w9 ⟨rfl,hb9⟩;have hi2:=HI2.out w9 hb9;rw [hc2] at hi2;have HI3:=Hi hi2;have HB9:=Hi hb9;clear hb9 hi2 hc hc2 HI2 HI1;go_wp2_with fail
  refine HI3.out.mono ?_;rintro e w1 ⟨rfl,hb1⟩;have HT1:=Hi (HTK.out w1 (HB9.out.trans (hb1.mono HB9.out.size)));have HU1:=Hi (((q00 (bp:=bp) HB0.out).trans (q00 HB9.out)).trans (q00 hb1));have HBX:=Hi ((HB.out.below HB9.out HB.out.lt).below hb1 (Nat.lt_of_lt_of_le HB.out.lt HB9.out.size));clear hb1 HTK HI3 HB9;exact V28
end
section
attribute [local go_sem] fTk0 fTk1 fTk2
theorem q87(w:World)(bp d:Nat)(t:Tk)(r:List Tk)(hd:d<=60)(hp:PS w bp (t :: r) d)(hg:Gt (t :: r))(hk:t.k = 2) :
  Calls Tryz.prog 159 #[.pointer (some ⟨bp,0,none⟩)] w (OutP w bp d (t :: r) (Rd numV (.lev 5) d (t :: r))):=by
 have hlt:=hp.lt;have hgr:=hg.tail V0;obtain ⟨t2,r2,hr2⟩:=hgr.cons;have hne:r≠[]:=Vi;obtain ⟨w0,hw0,hb0,hB⟩:=alK w #[.int .i64 0,.string ⟨#[]⟩,.int .u32 0,.int .i64 0,.slice none 0 0,.slice none 0 0] 26;have hn:=next w0 bp d t r (hp.below hb0);have HKQ:=Hi hk;have hq:((t.k:Int)==2)=true:=by rw [hk];rfl
 have HN:=Hi hn;have HNU:=Hi fun (w':World) (hb:Below w0.heap.size w0 w')=>number w' bp d t r ((hp.below hb0).below hb) (hg.ok t (List.mem_cons_self ..)).2 hne
 have HB0:=Hi hb0;have HB:=Hi hB;have HW:=Hi hw0;have HGR:=Hi hgr;clear hb0 hp hw0 hB hgr hr2 hg hk hn hne;go_enter Tryz.func159,Tryz.ntmps159;go_wp2_with fail
 rw [HW.out];refine HN.out.mono ?_;rintro e w1 ⟨rfl,hb1⟩;obtain ⟨w2,hw2⟩:∃ w2,w1.alloc (.cells #[.int .i64 (t.k:Int),.string ⟨t.s.toArray⟩,.int .i64 (t.at_:Int)] 63)=w2:=⟨_,rfl⟩;have hb2:Below w0.heap.size w0 w2:=Vg;have HW2:=Hi hw2;have HB2:=Hi hb2;have HNO:=Hi (show Calls Tryz.prog 125 #[.int .i64 0,.string ⟨#[]⟩,.int .i64 (t.at_:Int),.slice none 0 0] w2 _ from node w2 0 t.at_ [] none 0 0);clear hb1 hb2 hw2 HN;go_wp2_with fail
 rw [HW2.out];refine HNO.out.mono ?_;rintro e w3 ⟨rfl,hb3⟩;obtain ⟨w4,hw4,hb34,hbn⟩:=alK w3 #[.int .i64 0,.string ⟨#[]⟩,.int .u32 0,.int .i64 (t.at_:Int),.slice none 0 0,.slice none 0 0] 26;have hb4:Below w0.heap.size w0 w4:=(HB2.out.trans (hb3.mono HB2.out.size)).trans (hb34.mono (Nat.le_trans HB2.out.size hb3.size));have HU4:=Hi (HNU.out w4 hb4);have HW4:=Hi hw4;have HBN:=Hi hbn;have HB4:=Hi hb4;have h03:w0.heap.size<=w3.heap.size:=Nat.le_trans HB2.out.size hb3.size;clear hb3 hb34 hb4 hw4 hbn HNO HNU;go_wp2_with fail
 rw [HW4.out];refine HU4.out.mono ?_;rintro e w5 (⟨hnv,rfl,hp5,hu5⟩ | ⟨hnv,he,hu5⟩)
 ·have hX:Blk w5 w.heap.size 26 _:=(HB.out.below HB4.out HB.out.lt).upd hu5 V0;have hlb:=HB.out.lt;have hY:=HBN.out.upd hu5 (show ¬ w3.heap.size=bp from V0);obtain ⟨⟨e0,e1,e2,e3,e4,e5⟩,z0,z1,z2,z3,z4,z5⟩:=Blk.c6 hX;obtain ⟨⟨g0,g1,g2,g3,g4,g5⟩,y0,y1,y2,y3,y4,y5⟩:=Blk.c6 hY;have hxy:w3.heap.size≠w.heap.size:=V0;have HX:=Hi hX;have HY:=Hi hY;have HP5:=Hi hp5;have HU5:=Hi hu5;have HNV:=Hi hnv;clear hX hY hp5 hu5 hnv;go_wp2_with fail
  have hu6:Upd (fun b=>bp < b) w5 (w5.setCell ⟨w3.heap.size,2,none⟩ (.int .u32 ((numV t.s).1:Int))):=(Upd.refl (fun b=>bp < b) w5).setCell (fun _=>by show bp < w3.heap.size;omega) _;have hu7:UB bp w (w5.setCell ⟨w3.heap.size,2,none⟩ (.int .u32 ((numV t.s).1:Int))):=(((q00 HB0.out).trans (q00 HB4.out)).trans HU5.out).setCell (fun h=>absurd h (by show ¬ w3.heap.size < w.heap.size;omega)) _;refine bodyPost_ret (resNd rfl rfl (Blk.put6 (HX.out.far (Ne.symm hxy) _) _ _ _ _ _ _) rfl) rfl ?_;exact q0J (lo:=w.heap.size+1) hlt V0 (q1Q _ 0 t.at_ (numV t.s).1 []) (r_num hd HKQ.out HNV.out) (HP5.out.far hu6 fun _ h=>h) HGR.out V3 hu7
 ·have hbad:=q2N (num:=numV) (r:=r) hd HKQ.out hnv;generalize (if (numV t.s).2 = 4 then 100 else 150)=er at he hbad;subst he;have HU5:=Hi hu5;have HBAD:=Hi hbad;clear hu5 hnv hbad;go_wp2_with fail
  exact ⟨rfl,.inr ⟨_,_,rfl,HBAD.out,((q00 HB0.out).trans (q00 HB4.out)).trans HU5.out⟩⟩
theorem q6X{N:Nat->Prop}{w:World}{x:Tr}{k a s n A la cA B lb cB}(h:TIn N w x (ndC k a s n A la cA B lb cB))(a':Nat):TIn N w (x.put a') (ndC k a' s n A la cA B lb cB):=by
 cases x with
 | mk k1 a1 s1 n1 ps l=>
  exact V2A
theorem q88{n:Nat}(H:ExC n)(w:World)(bp d:Nat)(t:Tk)(r:List Tk)(hn:r.length<=n)(hd:d<=60)(hp:PS w bp (t :: r) d)(hg:Gt (t :: r))(hc:(t.s==[40])=true) :
  Calls Tryz.prog 159 #[.pointer (some ⟨bp,0,none⟩)] w (OutP w bp d (t :: r) (Rd numV (.lev 5) d (t :: r))):=by
 have hlt:=hp.lt;have hon:isS [40] t=true:=by rw [q0n hg.hd V2];exact hc
 have hk:2 < t.k:=q0u hg.hd V20;have hgr:=hg.tail V0;obtain ⟨t2,r2,hr2⟩:=hgr.cons;have hne:r≠[]:=Vi;obtain ⟨w0,hw0,hb0,hB⟩:=alK w #[.int .i64 0,.string ⟨#[]⟩,.int .u32 0,.int .i64 0,.slice none 0 0,.slice none 0 0] 26;have hq1:((t.k:Int)==2)=false:=V4;have hq2:((t.k:Int)==1)=false:=V4;have HN:=Hi (next w0 bp d t r (hp.below hb0));have HTK:=Hi fun (w':World) (hb:Below w0.heap.size w0 w')=>take w' bp d t r ((hp.below hb0).below hb) hne
 have HB0:=Hi hb0;have HB:=Hi hB;have HW:=Hi hw0;have HGR:=Hi hgr;have hlb:=hB.lt;clear hb0 hp hw0 hB hgr hr2 hg hk hne;go_enter Tryz.func159,Tryz.ntmps159;go_wp2_with fail
 rw [HW.out];refine HN.out.mono ?_;rintro e w1 ⟨rfl,hb1⟩;obtain ⟨w2,hw2,-,hbt⟩:=alK w1 #[.int .i64 (t.k:Int),.string ⟨t.s.toArray⟩,.int .i64 (t.at_:Int)] 63;have hb2:Below w0.heap.size w0 w2:=Vg;have HT2:=Hi (HTK.out w2 hb2);have h01:w0.heap.size<=w1.heap.size:=hb1.size;have HW2:=Hi hw2;have HU2:=Hi ((q00 (bp:=bp) HB0.out).trans (q00 hb2));have HBT:=Hi hbt;have HX2:=Hi (HB.out.below hb2 HB.out.lt);clear hb1 hb2 hw2 HN hbt HTK;go_wp2_with fail
 rw [HW2.out];refine HT2.out.mono ?_;rintro e w3 ⟨rfl,hp3,hu3⟩;have HE3:=Hi (q3x H w3 bp d r hn hd hp3 HGR.out);have HU3:=Hi (HU2.out.trans hu3);have HBT3:=Hi (HBT.out.upd hu3 V0);have HX3:=Hi (HX2.out.upd hu3 V0);have h13:=(HBT.out.upd hu3 (show ¬ w1.heap.size=bp from V0)).lt;clear hp3 hu3;go_wp2_with fail
 refine HE3.out.mono ?_;rintro e w4 (⟨k,a,s,m,A,la,cA,B,lb,cB,x,r',rfl,hT,hR,hP,hG,hr,hU⟩ | ⟨a,er,rfl,hR,hU⟩);rotate_left
 ·have HR:=Hi hR;have HU:=Hi (HU3.out.trans hU);clear hR hU;go_wp2_with fail
  exact ⟨rfl,.inr ⟨a,er,rfl,q4g hd hon HR.out,HU.out⟩⟩
 obtain ⟨u,r5,rfl⟩:=hG.cons;obtain ⟨w5,hw5,hb5,hbn⟩:=alK w4 #[.int .i64 (k:Int),.string ⟨s.toArray⟩,.int .u32 (m:Int),.int .i64 (a:Int),.slice A la cA,.slice B lb cB] 26;have h34:=hU.size;have h45:=hbn.lt;have HT5:=Hi ((hT.mono (N':=fun b=>w.heap.size+1<=b/\b≠w4.heap.size) fun b hb hs=>⟨V0,V0⟩).upd (Upd.of_below hb5 fun _=>False) (fun _ _ h=>h));have HR5:=Hi hR;have HG5:=Hi hG;have HU5:=Hi ((HU3.out.trans hU).trans (q00 hb5));have HBT5:=Hi ((HBT3.out.upd hU V0).below hb5 V0);have HX5:=Hi ((HX3.out.upd hU V0).below hb5 V0);have HBN:=Hi hbn;have HW5:=Hi hw5;have hp5:=hP.below hb5;have h4b:bp < w4.heap.size:=hP.lt;simp only [List.length_cons] at hr;by_cases hv:(u.s==[41])=true
 ·have hku:u.k≠0:=by
   have:=q0u hG.hd (by rw [eq_of_beq hv];decide);omega
  have hgr5:=hG.tail hku;obtain ⟨t6,r6,hr6⟩:=hgr5.cons;have HM:=Hi (must_yes w5 bp d u r5 [41] hp5 hv (by rw [hr6];simp));have hon2:isS [41] u=true:=by rw [q0n hG.hd V2];exact hv
  have HGR5:=Hi hgr5;clear hv hgr5 hr6 hw5 hb5 hbn hT hR hP hG hU hp5 hku;go_wp2_with fail
  rw [HW5.out];refine HM.out.mono ?_;rintro e w6 ⟨rfl,hp6,hu6⟩;have hX:=HX5.out.upd hu6 (show ¬ w.heap.size=bp from V0);have hY:=HBN.out.upd hu6 (show ¬ w4.heap.size=bp from V0);have hZ:=HBT5.out.upd hu6 (show ¬ w1.heap.size=bp from V0);obtain ⟨⟨e0,e1,e2,e3,e4,e5⟩,z0,z1,z2,z3,z4,z5⟩:=Blk.c6 hX;obtain ⟨⟨g0,g1,g2,g3,g4,g5⟩,y0,y1,y2,y3,y4,y5⟩:=Blk.c6 hY;obtain ⟨f0,f1,f2,x0,x1,x2⟩:=Blk.c3 hZ;have hxy:w4.heap.size≠w.heap.size:=V0;have HX:=Hi hX;have HP6:=Hi hp6;have HU6:=Hi hu6;clear hX hY hZ hp6 hu6;go_wp2_with fail
  have hs6:Upd (fun b=>b=w4.heap.size) w6 (w6.setCell ⟨w4.heap.size,3,none⟩ (.int .i64 (t.at_:Int))):=(Upd.refl (fun b=>b=w4.heap.size) w6).setCell (fun _=>rfl) _;refine bodyPost_ret (resNd rfl rfl (Blk.put6 (HX.out.far (Ne.symm hxy) _) _ _ _ _ _ _) rfl) rfl ?_;have hT7:=q6X (HT5.out.upd HU6.out fun b hb e=>V0) t.at_;exact q0J hlt (Nat.lt_succ_self _) ((hT7.upd hs6 fun b hb e=>hb.2 e).mono fun b hb _=>hb.1) (r_par hd hon HR5.out hon2) (HP6.out.far hs6 fun b hb=>V0) HGR5.out V4 ((HU5.out.trans HU6.out).setCell (fun h=>absurd h (by show ¬ w4.heap.size < w.heap.size;omega)) _)
 ·have hv':(u.s==[41])=false:=by simpa using hv
  have HM:=Hi (must_no w5 bp d u r5 [41] hp5 hv');have hon2:isS [41] u=false:=by rw [q0n hG.hd V2];exact hv'
  clear hv hv' hw5 hb5 hbn hT hR hP hG hU hp5;go_wp2_with fail
  rw [HW5.out];refine HM.out.mono ?_;rintro e w6 ⟨rfl,hu6⟩;have HU6:=Hi hu6;clear hu6;go_wp2_with fail
  exact ⟨rfl,.inr ⟨_,_,rfl,q4f hd hon HR5.out hon2,HU5.out.trans HU6.out⟩⟩
theorem prim_no(w:World)(bp d:Nat)(t:Tk)(r:List Tk)(hd:d<=60)(hp:PS w bp (t :: r) d)(hg:Gt (t :: r))(h1:(isS [126] t || isS [45] t)=false)(h2:t.k≠2)(h3:t.k≠1)(hc:(t.s==[40])=false) :
  Calls Tryz.prog 159 #[.pointer (some ⟨bp,0,none⟩)] w (OutP w bp d (t :: r) (Rd numV (.lev 5) d (t :: r))):=by
 have hon:isS [40] t=false:=by rw [q0n hg.hd V2];exact hc
 have hR:=q4h (num:=numV) (r:=r) hd h1 h2 hon h3;obtain ⟨w0,hw0,hb0,-⟩:=alK w #[.int .i64 0,.string ⟨#[]⟩,.int .u32 0,.int .i64 0,.slice none 0 0,.slice none 0 0] 26;have hq1:((t.k:Int)==2)=false:=V4;have hq2:((t.k:Int)==1)=false:=V4;have HN:=Hi (next w0 bp d t r (hp.below hb0));have HH:=Hi fun (w':World) (hb:Below w0.heap.size w0 w')=>here w' bp d t r 100 ((hp.below hb0).below hb)
 have HB0:=Hi hb0;have HW:=Hi hw0;have HR:=Hi hR;clear hb0 hp hw0 hg hR hon h1 h2 h3;go_enter Tryz.func159,Tryz.ntmps159;go_wp2_with fail
 rw [HW.out];refine HN.out.mono ?_;rintro e w1 ⟨rfl,hb1⟩;obtain ⟨w2,hw2⟩:∃ w2,w1.alloc (.cells #[.int .i64 (t.k:Int),.string ⟨t.s.toArray⟩,.int .i64 (t.at_:Int)] 63)=w2:=⟨_,rfl⟩;have hb2:Below w0.heap.size w0 w2:=Vg;have HH2:=Hi (HH.out w2 hb2);have HW2:=Hi hw2;have HU2:=Hi ((q00 (bp:=bp) HB0.out).trans (q00 hb2));clear hb1 hb2 hw2 HN HH;go_wp2_with fail
 rw [HW2.out];refine HH2.out.mono ?_;rintro e w3 ⟨rfl,hb3⟩;have HU3:=Hi (HU2.out.trans (q00 hb3));clear hb3;go_wp2_with fail
 exact ⟨rfl,.inr ⟨_,_,rfl,HR.out,HU3.out⟩⟩
end
end Pa
end Go.Proofs.YtcgibpdjfgjldaaGreatDoor
