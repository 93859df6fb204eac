/- DERIVED. PaNd, PaAr, RqSt, RqSm, RqMu. By an AI agent. -/
import Derived.Test.YtcgibpdjfgjldaaGreatDoorT29
set_option maxRecDepth 100000
set_option maxHeartbeats 4000000
set_option linter.unusedVariables false
set_option linter.unusedSimpArgs false
open Go Go.ChangeShapes Go.WideShapes Go.ChangeAt Go.RowKit
namespace Go.Proofs.YtcgibpdjfgjldaaGreatDoor
namespace Pa
open Lx Args
section
attribute [local go_sem] fTk0 fTk1 fTk2
def OutP(w:World)(bp d:Nat)(l:List Tk)(R:Out->Prop)(e:Ending)(w':World):Prop:=
 (∃ k a s n A la cA B lb cB x r,e = .returned (.agg #[.int .i64 (k:Nat),.string ⟨(s:Bs).toArray⟩,.int .u32 (n:Nat),.int .i64 (a:Nat),.slice A la cA,.slice B lb cB])/\TIn (fun b=>w.heap.size<=b) w' x (ndC k a s n A la cA B lb cB)/\R (.ok [x] r) /\
  PS w' bp r d/\Gt r/\r.length < l.length/\UB bp w w') \/
 (∃ a er,e=panV a er/\R (.bad a er)/\UB bp w w')
theorem OutP.imp{w:World}{bp d:Nat}{l:List Tk}{R R':Out->Prop}{e:Ending}{w':World}(h:OutP w bp d l R e w')(hR:∀ o,R o->R' o):OutP w bp d l R' e w':=by
 rcases h with ⟨k,a,s,n,A,la,cA,B,lb,cB,x,r,h1,h2,h3,h4⟩ | ⟨a,er,h1,h2,h3⟩
 ·exact .inl ⟨k,a,s,n,A,la,cA,B,lb,cB,x,r,h1,h2,hR _ h3,h4⟩
 ·exact .inr ⟨a,er,h1,hR _ h2,h3⟩
theorem TIn.up{lo lo':Nat}{w:World}{x:Tr}{c:List Value}(h:TIn (fun b=>lo<=b) w x c)(hl:lo'<=lo):TIn (fun b=>lo'<=b) w x c:=h.mono fun b hb _=>Nat.le_trans hl hb
theorem TIn.far{X:Nat->Prop}{lo:Nat}{w w':World}{x:Tr}{c:List Value}(h:TIn (fun b=>lo<=b) w x c)(hu:Upd X w w')(hX:∀ b,X b->b < lo):TIn (fun b=>lo<=b) w' x c:=h.upd hu fun b hb hx=>V10
theorem q0J{w w1:World}{bp d lo:Nat}{l r:List Tk}{R:Out->Prop}{k a n la cA lb cB:Nat}{s:Bs}{A B:Option Addr}{x:Tr}(hlt:bp < w.heap.size)(hg:w.heap.size < lo)(hT:TIn (fun b=>lo<=b) w1 x (ndC k a s n A la cA B lb cB))(hR:R (.ok [x] r))(hP:PS w1 bp r d)(hG:Gt r)(hr:r.length < l.length)(hU:UB bp w w1) :
  OutP w bp d l R (.returned (.agg #[.int .i64 (k:Int),.string ⟨s.toArray⟩,.int .u32 (n:Int),.int .i64 (a:Int),.slice A la cA,.slice B lb cB])) (put6 w1 w.heap.size (.int .i64 (k:Int)) (.string ⟨s.toArray⟩) (.int .u32 (n:Int)) (.int .i64 (a:Int)) (.slice A la cA) (.slice B lb cB)):=by
 have hu:Upd (fun b=>b=w.heap.size) w1 (put6 w1 w.heap.size (.int .i64 (k:Int)) (.string ⟨s.toArray⟩) (.int .u32 (n:Int)) (.int .i64 (a:Int)) (.slice A la cA) (.slice B lb cB)):=q02 (X:=fun b=>b=w.heap.size) (Upd.refl _ _) (fun _=>rfl) _ _ _ _ _ _;refine .inl ⟨k,a,s,n,A,la,cA,B,lb,cB,x,r,rfl,?_,hR,hP.far hu fun b hb=>V0,hG,hr,?_⟩
 ·exact (TIn.far hT hu fun b hb=>V0).up (Nat.le_of_lt hg)
 ·exact q02 hU (fun h=>absurd h (Nat.lt_irrefl _)) _ _ _ _ _ _
theorem expr(w:World)(bp d:Nat)(l:List Tk)(hp:PS w bp l d)
  (hS:∀ w0,PS w0 bp l d->Calls Tryz.prog 103 #[.pointer (some ⟨bp,0,none⟩),.int .i64 1] w0 (OutP w0 bp d l (Rd numV (.lev 0) d l))) :
  Calls Tryz.prog 69 #[.pointer (some ⟨bp,0,none⟩)] w (OutP w bp d l (Rd numV (.lev 0) d l)):=by
 obtain ⟨w0,hw0,hb0,hB⟩:=alK w #[.int .i64 0,.string ⟨#[]⟩,.int .u32 0,.int .i64 0,.slice none 0 0,.slice none 0 0] 26;have hlt:=hp.lt;have HS:=Hi (hS w0 (hp.below hb0));have HB0:=Hi hb0;have HB:=Hi hB;have HW:=Hi hw0;clear hb0 hp hw0 hB hS;go_enter Tryz.func69,Tryz.ntmps69;go_wp2_with fail
 rw [HW.out];refine HS.out.mono ?_;rintro e w1 (⟨k,a,s,n,A,la,cA,B,lb,cB,x,r,rfl,hT,hR,hP,hG,hr,hU⟩ | ⟨a,er,rfl,hR,hU⟩)
 ·exact V1a
 ·exact V1g
theorem OutP.below{w:World}{bp d:Nat}{l:List Tk}{R:Out->Prop}{e:Ending}{w1 w2:World}(h:OutP w bp d l R e w1)(hb:Below w1.heap.size w1 w2):OutP w bp d l R e w2:=by
 rcases h with ⟨k,a,s,n,A,la,cA,B,lb,cB,x,r,h1,h2,h3,h4,h5,h6,h7⟩ | ⟨a,er,h1,h2,h3⟩
 ·exact .inl ⟨k,a,s,n,A,la,cA,B,lb,cB,x,r,h1,h2.upd (Upd.of_below hb fun _=>False) (fun _ _ h=>h),h3,h4.below hb,h5,h6,h7.trans (q00 hb)⟩
 ·exact .inr ⟨a,er,h1,h2,h3.trans (q00 hb)⟩
theorem PS.dc{w:World}{bp d:Nat}{l:List Tk}(h:PS w bp l d):w.cell? ⟨bp,1,none⟩=some (.int .i64 (d:Int))/\w.frozen? ⟨bp,1,none⟩=false:=by
 obtain ⟨b,o,c,_,h1,_⟩:=h;exact ⟨h1.cell 1,h1.frozen 1⟩
theorem q1N(F:Nat)(w:World)(bp:Nat)(t:Tk)(r:List Tk)(hp:PS w bp (t :: r) 60) :
  Calls Tryz.prog 160 #[.pointer (some ⟨bp,0,none⟩),.func (.func F) #[.pointer (some ⟨bp,0,none⟩)] #[]] w fun e w'=>e=panV t.at_ 150/\UB bp w w':=by
 obtain ⟨w0,hw0,hb0,-⟩:=alK w #[.int .i64 0,.string ⟨#[]⟩,.int .u32 0,.int .i64 0,.slice none 0 0,.slice none 0 0] 26;have HH:=Hi (here w0 bp 60 t r 150 (hp.below hb0));obtain ⟨f1,f3⟩:=hp.dc;have hlt:=hp.lt;have HB0:=Hi hb0;have HW:=Hi hw0;clear hb0 hp hw0;go_enter Tryz.func160,Tryz.ntmps160;go_wp2_with fail
 rw [HW.out];refine HH.out.mono ?_;rintro e w1 ⟨rfl,hb1⟩;have HB1:=Hi (HB0.out.trans (hb1.mono HB0.out.size));clear hb1;go_wp2_with fail
 exact ⟨rfl,rfl,q00 HB1.out⟩
theorem q4R(R:Out->Prop)(w:World)(bp d:Nat)(l:List Tk)(hd:d < 60)(hp:PS w bp l d)
  (hS:∀ w0,PS w0 bp l (d+1)->Calls Tryz.prog 69 #[.pointer (some ⟨bp,0,none⟩)] w0 (OutP w0 bp (d+1) l R)) :
  Calls Tryz.prog 160 #[.pointer (some ⟨bp,0,none⟩),.func (.func 69) #[.pointer (some ⟨bp,0,none⟩)] #[]] w (OutP w bp d l R):=by
 obtain ⟨f1,f3⟩:=hp.dc;have hlt:=hp.lt;have hne:((d:Int)==60)=false:=V4;obtain ⟨w0,hw0⟩:∃ w0,(w.setCell ⟨bp,1,none⟩ (.int .i64 ((d:Int)+1))).alloc (.cells #[.int .i64 0,.string ⟨#[]⟩,.int .u32 0,.int .i64 0,.slice none 0 0,.slice none 0 0] 26)=w0:=⟨_,rfl⟩;have hsz:(w.setCell ⟨bp,1,none⟩ (.int .i64 ((d:Int)+1))).heap.size=w.heap.size:=V3;have hp0:PS w0 bp l (d+1):=by
  exact V1e
 have hB:Blk w0 w.heap.size 26 #[.int .i64 0,.string ⟨#[]⟩,.int .u32 0,.int .i64 0,.slice none 0 0,.slice none 0 0]:=V1N;have hU0:UB bp w w0:=V1t;have HS:=Hi (hS w0 hp0);have HB:=Hi hB;have HW:=Hi hw0;have HU0:=Hi hU0;clear hp hp0 hB hU0 hw0 hS hsz;go_enter Tryz.func160,Tryz.ntmps160;go_wp2_with fail
 rw [HW.out];refine HS.out.mono ?_;rintro e w1 (⟨k,a,s,n,A,la,cA,B,lb,cB,x,r,rfl,hT,hR,hP,hG,hr,hU⟩ | ⟨a,er,rfl,hR,hU⟩)
 ·exact V18
 ·exact V1i
theorem q4o(R:Out->Prop)(w:World)(bp d:Nat)(l:List Tk)(hd:d < 60)(hp:PS w bp l d)
  (hS:∀ w0,PS w0 bp l (d+1)->Calls Tryz.prog 127 #[.pointer (some ⟨bp,0,none⟩)] w0 (OutP w0 bp (d+1) l R)) :
  Calls Tryz.prog 160 #[.pointer (some ⟨bp,0,none⟩),.func (.func 127) #[.pointer (some ⟨bp,0,none⟩)] #[]] w (OutP w bp d l R):=by
 obtain ⟨f1,f3⟩:=hp.dc;have hlt:=hp.lt;have hne:((d:Int)==60)=false:=V4;obtain ⟨w0,hw0⟩:∃ w0,(w.setCell ⟨bp,1,none⟩ (.int .i64 ((d:Int)+1))).alloc (.cells #[.int .i64 0,.string ⟨#[]⟩,.int .u32 0,.int .i64 0,.slice none 0 0,.slice none 0 0] 26)=w0:=⟨_,rfl⟩;have hsz:(w.setCell ⟨bp,1,none⟩ (.int .i64 ((d:Int)+1))).heap.size=w.heap.size:=V3;have hp0:PS w0 bp l (d+1):=by
  exact V1e
 have hB:Blk w0 w.heap.size 26 #[.int .i64 0,.string ⟨#[]⟩,.int .u32 0,.int .i64 0,.slice none 0 0,.slice none 0 0]:=V1N;have hU0:UB bp w w0:=V1t;have HS:=Hi (hS w0 hp0);have HB:=Hi hB;have HW:=Hi hw0;have HU0:=Hi hU0;clear hp hp0 hB hU0 hw0 hS hsz;go_enter Tryz.func160,Tryz.ntmps160;go_wp2_with fail
 rw [HW.out];refine HS.out.mono ?_;rintro e w1 (⟨k,a,s,n,A,la,cA,B,lb,cB,x,r,rfl,hT,hR,hP,hG,hr,hU⟩ | ⟨a,er,rfl,hR,hU⟩)
 ·exact V18
 ·exact V1i
theorem q4p(R:Out->Prop)(w:World)(bp d:Nat)(l:List Tk)(hd:d < 60)(hp:PS w bp l d)
  (hS:∀ w0,PS w0 bp l (d+1)->Calls Tryz.prog 154 #[.pointer (some ⟨bp,0,none⟩)] w0 (OutP w0 bp (d+1) l R)) :
  Calls Tryz.prog 160 #[.pointer (some ⟨bp,0,none⟩),.func (.func 154) #[.pointer (some ⟨bp,0,none⟩)] #[]] w (OutP w bp d l R):=by
 obtain ⟨f1,f3⟩:=hp.dc;have hlt:=hp.lt;have hne:((d:Int)==60)=false:=V4;obtain ⟨w0,hw0⟩:∃ w0,(w.setCell ⟨bp,1,none⟩ (.int .i64 ((d:Int)+1))).alloc (.cells #[.int .i64 0,.string ⟨#[]⟩,.int .u32 0,.int .i64 0,.slice none 0 0,.slice none 0 0] 26)=w0:=⟨_,rfl⟩;have hsz:(w.setCell ⟨bp,1,none⟩ (.int .i64 ((d:Int)+1))).heap.size=w.heap.size:=V3;have hp0:PS w0 bp l (d+1):=by
  exact V1e
 have hB:Blk w0 w.heap.size 26 #[.int .i64 0,.string ⟨#[]⟩,.int .u32 0,.int .i64 0,.slice none 0 0,.slice none 0 0]:=V1N;have hU0:UB bp w w0:=V1t;have HS:=Hi (hS w0 hp0);have HB:=Hi hB;have HW:=Hi hw0;have HU0:=Hi hU0;clear hp hp0 hB hU0 hw0 hS hsz;go_enter Tryz.func160,Tryz.ntmps160;go_wp2_with fail
 rw [HW.out];refine HS.out.mono ?_;rintro e w1 (⟨k,a,s,n,A,la,cA,B,lb,cB,x,r,rfl,hT,hR,hP,hG,hr,hU⟩ | ⟨a,er,rfl,hR,hU⟩)
 ·exact V18
 ·exact V1i
end
section
attribute [local go_sem] fTk0 fTk1 fTk2
def ExC(n:Nat):Prop:=∀ (w:World) (bp d:Nat) (l:List Tk),l.length<=n->d<=60->PS w bp l d->Gt l ->
 Calls Tryz.prog 69 #[.pointer (some ⟨bp,0,none⟩)] w (OutP w bp d l (Rd numV (.lev 0) d l))
theorem q3x{n:Nat}(H:ExC n)(w:World)(bp d:Nat)(l:List Tk)(hn:l.length<=n)(hd:d<=60)(hp:PS w bp l d)(hg:Gt l) :
  Calls Tryz.prog 160 #[.pointer (some ⟨bp,0,none⟩),.func (.func 69) #[.pointer (some ⟨bp,0,none⟩)] #[]] w (OutP w bp d l (Rd numV (.lev 0) (d+1) l)):=by
 rcases Nat.lt_or_ge d 60 with h | h
 ·exact q4R _ w bp d l h hp fun w0 hp0=>H w0 bp (d+1) l hn V0 hp0 hg
 ·obtain rfl:d = 60:=by omega
  obtain ⟨t,r,rfl⟩:=hg.cons;exact (q1N _ w bp t r hp).mono fun e w' h=>.inr ⟨_,_,h.1,q6K V0,h.2⟩
theorem ar_ok{num:Bs->Nat×Nat}{d a:Nat}{s:Bs}{r r1 r3:List Tk}{x:Tr}{xs:List Tr}{v:Tk}(h:Rd num (.lev 0) (d+1) r (.ok [x] r1))(h2:Rd num (.args [x]) (d+1) r1 (.ok xs (v :: r3)))(hv:isS [41] v=true):Ev (fun f=>ArK num f d a s r) (.ok [.mk 5 a s 0 [] xs] r3):=
 q0y (K:=fun f xs r''=>bnd (pF num f (.args xs) (d+1) r'') fun ys r3=>must [41] r3 fun r4=>some (.ok [.mk 5 a s 0 [] ys] r4)) h
  (q0y (K:=fun _ ys r3=>must [41] r3 fun r4=>some (.ok [.mk 5 a s 0 [] ys] r4)) h2 (q0s (q09 _) fun _=>q0B hv _))
theorem q8F{num:Bs->Nat×Nat}{d a:Nat}{s:Bs}{r r1 r3:List Tk}{x:Tr}{xs:List Tr}{v:Tk}(h:Rd num (.lev 0) (d+1) r (.ok [x] r1))(h2:Rd num (.args [x]) (d+1) r1 (.ok xs (v :: r3)))(hv:isS [41] v=false):Ev (fun f=>ArK num f d a s r) (.bad v.at_ 100):=
 q0y (K:=fun f xs r''=>bnd (pF num f (.args xs) (d+1) r'') fun ys r3=>must [41] r3 fun r4=>some (.ok [.mk 5 a s 0 [] ys] r4)) h
  (q0y (K:=fun _ ys r3=>must [41] r3 fun r4=>some (.ok [.mk 5 a s 0 [] ys] r4)) h2 (q0s (q09 _) fun _=>q1n hv _))
theorem q6R{num:Bs->Nat×Nat}{d a p e:Nat}{s:Bs}{r r1:List Tk}{x:Tr}(h:Rd num (.lev 0) (d+1) r (.ok [x] r1))(h2:Rd num (.args [x]) (d+1) r1 (.bad p e)):Ev (fun f=>ArK num f d a s r) (.bad p e):=
 q0y (K:=fun f xs r''=>bnd (pF num f (.args xs) (d+1) r'') fun ys r3=>must [41] r3 fun r4=>some (.ok [.mk 5 a s 0 [] ys] r4)) h
  (q10 (K:=fun _ ys r3=>must [41] r3 fun r4=>some (.ok [.mk 5 a s 0 [] ys] r4)) h2)
theorem q8G{num:Bs->Nat×Nat}{d a p e:Nat}{s:Bs}{r:List Tk}(h:Rd num (.lev 0) (d+1) r (.bad p e)):Ev (fun f=>ArK num f d a s r) (.bad p e):=
 q10 (K:=fun f xs r''=>bnd (pF num f (.args xs) (d+1) r'') fun ys r3=>must [41] r3 fun r4=>some (.ok [.mk 5 a s 0 [] ys] r4)) h
def ArP(w:World)(bp d:Nat)(l:List Tk)(q:List Tk)(e:Ending)(w':World):Prop:=
 (∃ g c xs r,e = .returned (.slice (some ⟨g,0,none⟩) xs.length c)/\ArrT 26 w.heap.size w' g c xs/\xs.length<=4000/\(∀ a s,Ev (fun f=>ArK numV f d a s q) (.ok [.mk 5 a s 0 [] xs] r))/\PS w' bp r d/\Gt r/\r.length < l.length/\UB bp w w') \/
 (∃ a er,e=panV a er/\(∀ p s,Ev (fun f=>ArK numV f d p s q) (.bad a er))/\UB bp w w')
structure ArI(w:World)(bp d:Nat)(q:List Tk)(x0:Tr)(r1:List Tk)(xs:List Tr)(l:List Tk)(g c:Nat)(W:World):Prop where
 rd:∀ o,Rd numV (.args xs) (d+1) l o->Rd numV (.args [x0]) (d+1) r1 o
 ps:PS W bp l d
 gt:Gt l
 lt:l.length < q.length
 arr:ArrT 26 w.heap.size W g c xs
 few:xs.length+l.length<=4000
 ub:UB bp w W
theorem infoNd:(Tryz.prog.info? 26).map (fun i=>(i.zero,i.size,i.bytes))=some (some (.agg #[.int .i64 0,.string ⟨#[]⟩,.int .u32 0,.int .i64 0,.slice none 0 0,.slice none 0 0]),6,88):=V1
theorem arguments{n:Nat}(H:ExC n)(w:World)(bp d:Nat)(u:Tk)(q:List Tk)(hn:q.length<=n)(hd:d<=60)(hp:PS w bp (u :: q) d)(hg:Gt (u :: q))(hu:(u.s==[40])=true) :
  Calls Tryz.prog 187 #[.pointer (some ⟨bp,0,none⟩)] w (ArP w bp d (u :: q) q):=by
 have hlt:=hp.lt;obtain ⟨i0,hi,hz⟩:=Option.map_eq_some_iff.1 infoNd;have hz0:=congrArg (·.1) hz;have hz1:=congrArg (·.2.1) hz;have hz2:=congrArg (·.2.2) hz;have HI:=Hi hi;have HZ0:=Hi hz0;have HZ1:=Hi hz1;have HZ2:=Hi hz2;clear hi hz hz0 hz1 hz2;have hk:u.k≠0:=by
  have:=q0u hg.hd (by rw [eq_of_beq hu];decide);omega
 have hgq:=hg.tail hk;obtain ⟨t0,q0,hq0⟩:=hgq.cons;have HM:=Hi (must_yes w bp d u q [40] hp hu (by rw [hq0];simp));have HGQ:=Hi hgq;clear hp hg hu hk hgq hq0;go_enter Tryz.func187,Tryz.ntmps187;go_wp2_with fail
 refine HM.out.mono ?_;rintro e w1 ⟨rfl,hp1,hu1⟩;have HE:=Hi (q3x H w1 bp d q hn hd hp1 HGQ.out);have HU1:=Hi hu1;clear hp1 hu1;go_wp2_with fail
 refine HE.out.mono ?_;rintro e w2 (⟨k,a,s,m,A,la,cA,B,lb,cB,x,r,rfl,hT,hR,hP,hG,hr,hU⟩ | ⟨a,er,rfl,hR,hU⟩);rotate_left
 ·have HR:=Hi hR;have HU:=Hi (HU1.out.trans hU);clear hR hU;go_wp2_with fail
  exact ⟨rfl,.inr ⟨a,er,rfl,fun p s=>q8G HR.out,HU.out⟩⟩
 have hJ:ArI w bp d (u :: q) x r [x] r w2.heap.size 1 (w2.alloc (.cells #[.int .i64 (k:Int),.string ⟨s.toArray⟩,.int .u32 (m:Int),.int .i64 (a:Int),.slice A la cA,.slice B lb cB] 26)):=
  ⟨fun o h=>h,hP.below ((Below.refl _ _).alloc (Nat.le_refl _) _),hG,V4,ArrT.first (hT.up HU1.out.size) (HU1.out.trans hU).size,by have:=HGQ.out.few;simp;omega,(HU1.out.trans hU).alloc _⟩
 have HJ:=Hi hJ;have HR0:=Hi hR;clear hJ hT hR hP hG hU;go_wp2_with fail
 go_loopw [3] (fun vl wr=>∃ xs l' g c,vl = .slice (some ⟨g,0,none⟩) xs.length c/\Hid (ArI w bp d (u :: q) x r xs l' g c wr)) (fun _ wr=>lenAt wr bp)
 case atStart=>exact ⟨[x],r,_,_,rfl,HJ⟩
 case round=>
  clear HJ;obtain ⟨xs,l',g,c,rfl,HH⟩:=hrel;obtain ⟨t,r',rfl⟩:=HH.out.gt.cons;have HIS:=Hi (is_ wr bp d t r' [44] HH.out.ps);by_cases hc:(t.s==[44])=true
  ·rw [hc] at HIS;have hk:t.k≠0:=by
    have:=q0u HH.out.gt.hd V20;omega
   have hon:isS [44] t=true:=by rw [q0n HH.out.gt.hd V2];exact hc
   have hgr:=HH.out.gt.tail hk;obtain ⟨t2,r2,hr2⟩:=hgr.cons;have hln:r'.length<=n:=by have:=HH.out.lt;simp at this;omega
   have HT:=Hi fun (w3:World) (hb3:Below wr.heap.size wr w3)=>take w3 bp d t r' (HH.out.ps.below hb3) Vi
   have HGR:=Hi hgr;clear hc hgr hr2;go_wp2_with fail
   refine HIS.out.mono ?_;rintro e w3 ⟨rfl,hb3⟩;have HT3:=Hi (HT.out w3 hb3);have HB3:=Hi hb3;clear hb3 HT;go_wp2_with fail
   refine HT3.out.mono ?_;rintro e w4 ⟨rfl,hp4,hu4⟩;have HE4:=Hi (q3x H w4 bp d r' hln hd hp4 HGR.out);have HU4:=Hi ((q00 (bp:=bp) HB3.out).trans hu4);clear hp4 hu4;go_wp2_with fail
   refine HE4.out.mono ?_;rintro e w5 (⟨k',a',s',m',A',la',cA',B',lb',cB',x',r5,rfl,hT,hR,hP,hG,hr,hU⟩ | ⟨a',er,rfl,hR,hU⟩)
   ·obtain ⟨css,how,hts⟩:=HH.out.arr;have hu5:UB bp wr w5:=HU4.out.trans hU;have hT5:TIn (fun b=>wr.heap.size<=b) w5 x' (ndC k' a' s' m' A' la' cA' B' lb' cB'):=hT.up HU4.out.size;have HOA:=Hi (World.ownsRow.alloc (q0X how hu5 V0U) (.cells #[.int .i64 (k':Int),.string ⟨s'.toArray⟩,.int .u32 (m':Int),.int .i64 (a':Int),.slice A' la' cA',.slice B' lb' cB'] 26));have HLI:=Hi (q0c w5 26 (ndC k' a' s' m' A' la' cA' B' lb' cB'));have hsz:w.heap.size<=w5.heap.size:=Nat.le_trans HH.out.ub.size hu5.size;have HBS:=Hi (show w.heap.size<=(w5.alloc (.cells #[.int .i64 (k':Int),.string ⟨s'.toArray⟩,.int .u32 (m':Int),.int .i64 (a':Int),.slice A' la' cA',.slice B' lb' cB'] 26)).heap.size from V4);have hfew:=HH.out.few;simp only [List.length_cons] at hfew;have HOW:=Hi how;have HTS:=Hi hts;have HU5:=Hi hu5;have HT5:=Hi hT5;have HR5:=Hi hR;have HP5:=Hi hP;have HG5:=Hi hG;clear how hts hu5 hT5 hT hR hP hG hU hsz;go_wp2_with (at_builtin;refine q0l rfl _ _ 23 rfl w.heap.size 26 i0 (.agg #[.int .i64 0,.string ⟨#[]⟩,.int .u32 0,.int .i64 0,.slice none 0 0,.slice none 0 0]) 6 88 Tryz.underlying23 HI.out HZ0.out HZ1.out HZ2.out rfl V2 _ xs.length _ rfl HOA.out ⟨w5.heap.size,0,none⟩ 1 1 (ndC k' a' s' m' A' la' cA' B' lb' cB') rfl rfl HLI.out V0q Va V0 HBS.out V2 ?_;intro g8 c8 w8 hE;have HE8:=Hi hE;clear hE)
    have HST:=Hi (q1P HOW.out HTS.out hlt HU5.out HT5.out HE8.out);have HJ8:Hid (ArI w bp d (u :: q) x r (xs ++ [x']) r5 g8 c8 w8):=Hi ⟨fun o h=>HH.out.rd o (q8E hon HR5.out h),HP5.out.far HST.out.2.2 fun b hb=>by have:=(q13 HOW.out).1;omega,HG5.out,V1O,HST.out.1,V4,HST.out.2.1 w (Nat.le_refl _) HH.out.ub⟩
    go_roundw
    case rel=>exact ⟨xs ++ [x'],r5,g8,c8,V0p,HJ8⟩
    case measure=>
     rw [PS.len HJ8.out.ps,PS.len HH.out.ps];simp;omega
   ·have HR:=Hi hR;have HU:=Hi ((HH.out.ub.trans HU4.out).trans hU);clear hR hU;go_wp2_with fail
    exact ⟨rfl,.inr ⟨a',er,rfl,fun p s=>q6R HR0.out (HH.out.rd _ (q35 hon HR.out)),HU.out⟩⟩
  ·have hc':(t.s==[44])=false:=by simpa using hc
   rw [hc'] at HIS;have hon:isS [44] t=false:=by rw [q0n HH.out.gt.hd V2];exact hc'
   clear hc hc';go_wp2_with fail
   refine HIS.out.mono ?_;rintro e w3 ⟨rfl,hb3⟩;by_cases hv:(t.s==[41])=true
   ·have hk:t.k≠0:=by
     have:=q0u HH.out.gt.hd (by rw [eq_of_beq hv];decide);omega
    have hgr:=HH.out.gt.tail hk;obtain ⟨t2,r2,hr2⟩:=hgr.cons;have HM3:=Hi (must_yes w3 bp d t r' [41] (HH.out.ps.below hb3) hv Vi);have hon2:isS [41] t=true:=by rw [q0n HH.out.gt.hd V2];exact hv
    have HB3:=Hi hb3;have HGR:=Hi hgr;clear hb3 hv hgr hr2;go_wp2_with fail
    refine HM3.out.mono ?_;rintro e w4 ⟨rfl,hp4,hu4⟩;have HP4:=Hi hp4;have HU4:=Hi hu4;clear hp4 hu4;go_wp2_with fail
    go_ret;have hu4:UB bp wr w4:=(q00 HB3.out).trans HU4.out;refine .inl ⟨g,c,xs,r',rfl,HH.out.arr.upd hu4 (fun b hb=>V0),by have:=HH.out.few;omega,fun p s=>ar_ok HR0.out (HH.out.rd _ (q1i hon)) hon2,HP4.out,HGR.out,V1O,HH.out.ub.trans hu4⟩
   ·have hv':(t.s==[41])=false:=by simpa using hv
    have HM3:=Hi (must_no w3 bp d t r' [41] (HH.out.ps.below hb3) hv');have hon2:isS [41] t=false:=by rw [q0n HH.out.gt.hd V2];exact hv'
    have HB3:=Hi hb3;clear hb3 hv hv';go_wp2_with fail
    refine HM3.out.mono ?_;rintro e w4 ⟨rfl,hu4⟩;have HU4:=Hi hu4;clear hu4;go_wp2_with fail
    exact ⟨rfl,.inr ⟨t.at_,100,rfl,fun p s=>q8F HR0.out (HH.out.rd _ (q1i hon)) hon2,HH.out.ub.trans ((q00 HB3.out).trans HU4.out)⟩⟩
end
end Pa
namespace Pq
open Lx Args Pa
section
attribute [local go_sem] fTk0 fTk1 fTk2
theorem fTk0(k a:Int)(s:ByteArray)(w:World):(Instr.field 63 (.agg #[.int .i64 k,.string s,.int .i64 a]) 0).run Tryz.prog w = .ok (.int .i64 k) w:=V1
theorem fTk1(k a:Int)(s:ByteArray)(w:World):(Instr.field 63 (.agg #[.int .i64 k,.string s,.int .i64 a]) 1).run Tryz.prog w = .ok (.string s) w:=V1
theorem fTk2(k a:Int)(s:ByteArray)(w:World):(Instr.field 63 (.agg #[.int .i64 k,.string s,.int .i64 a]) 2).run Tryz.prog w = .ok (.int .i64 a) w:=V1
theorem Blk.c4{w:World}{g:Nat}{t:TypeId}{a b c d:Value}(h:Blk w g t #[a,b,c,d]):w.cell? ⟨g,0,none⟩=some a/\w.cell? ⟨g,1,none⟩=some b/\w.cell? ⟨g,2,none⟩=some c/\w.cell? ⟨g,3,none⟩=some d/\w.frozen? ⟨g,0,none⟩=false/\w.frozen? ⟨g,1,none⟩=false/\w.frozen? ⟨g,2,none⟩=false/\w.frozen? ⟨g,3,none⟩=false:=
 ⟨h.cell 0,h.cell 1,h.cell 2,h.cell 3,h.frozen 0,h.frozen 1,h.frozen 2,h.frozen 3⟩
structure QS(w:World)(bp:Nat)(l:List Tk)(ba wy:Nat):Prop where
 ex:∃ b o c,∃ pre:List Tk,b < bp/\Blk w bp 60 #[.slice (some ⟨b,o,none⟩) (pre.length+l.length) c,.int .i64 (pre.length:Int),.int .i64 (ba:Int),.int .i64 (wy:Int)] /\
  Lies w (some ⟨b,o,none⟩) ((pre ++ l).flatMap tkC)/\pre.length+l.length<=4000
theorem QS.lt{w:World}{bp ba wy:Nat}{l:List Tk}(h:QS w bp l ba wy):bp < w.heap.size:=by
 obtain ⟨b,o,c,pre,_,hb,_⟩:=h;exact hb.lt
theorem QS.below{w w':World}{bp ba wy:Nat}{l:List Tk}(h:QS w bp l ba wy)(hb:Below w.heap.size w w'):QS w' bp l ba wy:=by
 obtain ⟨b,o,c,pre,hn,h1,h2,h3⟩:=h;exact ⟨b,o,c,pre,hn,h1.below hb h1.lt,h2.below hb,h3⟩
theorem QS.far{X:Nat->Prop}{w w':World}{bp ba wy:Nat}{l:List Tk}(h:QS w bp l ba wy)(hu:Upd X w w')(hX:∀ b,X b->bp < b):QS w' bp l ba wy:=by
 obtain ⟨b,o,c,pre,hn,h1,h2,h3⟩:=h;exact ⟨b,o,c,pre,hn,h1.upd hu fun hx=>by have:=hX bp hx;omega,hu.lies h2 fun b' o' e _ hx=>by cases e;have:=hX _ hx;omega,h3⟩
theorem flat_len(l:List Tk):(l.flatMap tkC).length=l.length * 3:=by
 induction l with
 | nil=>rfl
 | cons t l ih=>rw [List.flatMap_cons,List.length_append,ih,List.length_cons];show 3+_=_;omega
theorem q4S(pre:List Tk)(t:Tk)(r:List Tk)(j:Nat)(hj:j < 3):((pre ++ t :: r).flatMap tkC)[pre.length * 3+j]?=(tkC t)[j]?:=by
 rw [List.flatMap_append,List.getElem?_append_right (by rw [flat_len];omega),flat_len,show pre.length * 3+j - pre.length * 3=j from V0,List.flatMap_cons,List.getElem?_append_left (by show j < 3;exact hj)]
theorem QS.head{w:World}{bp ba wy:Nat}{t:Tk}{r:List Tk}(h:QS w bp (t :: r) ba wy):∃ b o c n,b < bp/\n+(r.length+1)<=4000/\0<=c/\0<=c /\
  (w.cell? ⟨bp,0,none⟩=some (.slice (some ⟨b,o,none⟩) (n+(r.length+1)) c)/\w.cell? ⟨bp,1,none⟩=some (.int .i64 (n:Int))/\w.cell? ⟨bp,2,none⟩=some (.int .i64 (ba:Int))/\w.cell? ⟨bp,3,none⟩=some (.int .i64 (wy:Int))) /\
  (w.frozen? ⟨bp,0,none⟩=false/\w.frozen? ⟨bp,1,none⟩=false/\w.frozen? ⟨bp,2,none⟩=false/\w.frozen? ⟨bp,3,none⟩=false) /\
  w.cell? ⟨b,o+n * 3,none⟩=some (.int .i64 (t.k:Int))/\w.cell? ⟨b,o+n * 3+1,none⟩=some (.string ⟨t.s.toArray⟩)/\w.cell? ⟨b,o+n * 3+2,none⟩=some (.int .i64 (t.at_:Int)):=by
 obtain ⟨b,o,c,pre,hn,h1,h2,h5⟩:=h;have f0:=h2 (pre.length * 3+0) _ ((q4S pre t r 0 V2).trans rfl);have f1:=h2 (pre.length * 3+1) _ ((q4S pre t r 1 V2).trans rfl);have f2:=h2 (pre.length * 3+2) _ ((q4S pre t r 2 V2).trans rfl);obtain ⟨a0,e0,f0⟩:=f0;obtain ⟨a1,e1,f1⟩:=f1;obtain ⟨a2,e2,f2⟩:=f2;cases e0;cases e1;cases e2;rw [Args.add_plain] at f0 f1 f2;rw [<-Nat.add_assoc] at f0 f1 f2;exact ⟨b,o,c,pre.length,hn,h5,Nat.zero_le _,Nat.zero_le _,⟨h1.cell 0,h1.cell 1,h1.cell 2,h1.cell 3⟩,⟨h1.frozen 0,h1.frozen 1,h1.frozen 2,h1.frozen 3⟩,f0,f1,f2⟩
theorem QS.wrong{w:World}{bp ba wy:Nat}{l:List Tk}(h:QS w bp l ba wy)(ba' wy':Nat):QS ((w.setCell ⟨bp,2,none⟩ (.int .i64 (ba':Int))).setCell ⟨bp,3,none⟩ (.int .i64 (wy':Int))) bp l ba' wy':=by
 obtain ⟨b,o,c,pre,hn,h1,h2,h3⟩:=h;refine ⟨b,o,c,pre,hn,(h1.set 2 _).set 3 _,?_,h3⟩;exact (((Upd.refl (fun b=>b=bp) w).setCell (fun _=>rfl) _).setCell (fun _=>rfl) _).lies h2 fun b' o' e _ hx=>Vb
theorem QS.on{w:World}{bp ba wy n:Nat}{t:Tk}{r:List Tk}(h:QS w bp (t :: r) ba wy)(hn:w.cell? ⟨bp,1,none⟩=some (.int .i64 (n:Int))):QS (w.setCell ⟨bp,1,none⟩ (.int .i64 ((n:Int)+1))) bp r ba wy:=by
 obtain ⟨b,o,c,pre,hb,h1,h2,h5⟩:=h;have e:=h1.cell 1;rw [hn] at e;have e2:n=pre.length:=by simp at e;omega
 subst e2;refine ⟨b,o,c,pre ++ [t],hb,?_,?_,by simp at h5 ⊢;omega⟩
 ·have:=h1.set 1 (.int .i64 ((pre.length:Int)+1));have e3:(pre ++ [t]).length+r.length=pre.length+(t :: r).length:=V4;have e4:(((pre ++ [t]).length:Nat):Int)=(pre.length:Int)+1:=V3;rw [e3,e4];exact this
 ·rw [List.append_assoc];exact ((Upd.refl (fun b=>b=bp) w).setCell (fun _=>rfl) _).lies h2 fun b' o' e _ hx=>Vb
theorem tok(w:World)(bp ba wy:Nat)(t:Tk)(r:List Tk)(hp:QS w bp (t :: r) ba wy) :
  Calls Tryz.prog 25 #[.pointer (some ⟨bp,0,none⟩)] w fun e w'=>e = .returned (.agg #[.int .i64 (t.k:Int),.string ⟨t.s.toArray⟩,.int .i64 (t.at_:Int)])/\Below w.heap.size w w':=by
 obtain ⟨w0,hw0,hb0,hB⟩:=alK w #[.int .i64 0,.string ⟨#[]⟩,.int .i64 0] 63;obtain ⟨b,o,c,n,hn,hl,hc,hm,⟨c0,c1,c2,c3⟩,⟨z0,z1,z2,z3⟩,f4,f5,f6⟩:=(hp.below hb0).head;have hlt:=(hp.below hb0).lt;have hbl:b < w0.heap.size:=World.block_lt_of_cell? w0 _ f4;have hix:(n:Int) < (n:Int)+((r.length:Int)+1):=V0;have HN:=Hi hn;have HB0:=Hi hb0;have HB:=Hi hB;have HW:=Hi hw0;clear hn hp hb0 hB hw0;go_enter Tryz.func25,Tryz.ntmps25;go_wp2_with fail
 rw [HW.out]
 go_still_tail 10,V1
 change wpList _ _ _ _ _ w0.drew;have hdr:Below w0.heap.size w0 w0.drew:=q0f (Below.refl _ _) 1;have hB1:Blk w0.drew w.heap.size 63 #[.int .i64 0,.string ⟨#[]⟩,.int .i64 0]:=HB.out.below hdr HB.out.lt;have hb1:=HB0.out.trans (hdr.mono HB0.out.size);generalize w0.drew=w1 at hdr hB1 hb1 ⊢;clear c0 c1 c2 c3 z0 z1 z2 z3 f4 f5 f6 hdr;obtain ⟨e0,e1,e2,y0,y1,y2⟩:=Blk.c3 hB1;have H1:=Hi hB1;have HB1:=Hi hb1;clear hB1 hb1;go_wp2_with fail
 refine bodyPost_ret (resTk rfl rfl (Blk.put3 H1.out _ _ _) rfl) rfl ⟨rfl,?_⟩;exact ((HB1.out.setCell (Nat.le_refl _) _).setCell (Nat.le_refl _) _).setCell (Nat.le_refl _) _
end
section
attribute [local go_sem] fTk0 fTk1 fTk2
abbrev vd:Ending:=.returned (.tuple #[])
theorem q0r(w:World)(bp ba wy er:Nat)(b:Bool)(t:Tk)(r:List Tk)(hp:QS w bp (t :: r) ba wy)(hb:b=false\/wy≠0) :
  Calls Tryz.prog 58 #[.pointer (some ⟨bp,0,none⟩),.bool b,.int .i64 (er:Int)] w fun e w'=>e=vd/\w=w':=by
 obtain ⟨b',o,c,n,hn,hl,hc,hm,⟨c0,c1,c2,c3⟩,⟨z0,z1,z2,z3⟩,f4,f5,f6⟩:=hp.head;have hlt:=hp.lt;have HN:=Hi hn;clear hn hp;rcases hb with rfl | hb
 ·go_enter Tryz.func58,Tryz.ntmps58;go_wp2_with fail
  first | go_end0 | skip
  all_goals first | exact ⟨rfl,rfl⟩ | refine bodyPost_ret (results_none rfl _ _ _) rfl ⟨rfl,rfl⟩
 ·have hz:((wy:Int)==0)=false:=by simp;omega
  cases b
  all_goals
   go_enter Tryz.func58,Tryz.ntmps58;go_wp2_with fail
   first | go_end0 | skip
   all_goals first | exact ⟨rfl,rfl⟩ | refine bodyPost_ret (results_none rfl _ _ _) rfl ⟨rfl,rfl⟩
theorem q1w(w:World)(bp er:Nat)(t:Tk)(r:List Tk)(hp:QS w bp (t :: r) 0 0) :
  Calls Tryz.prog 58 #[.pointer (some ⟨bp,0,none⟩),.bool true,.int .i64 (er:Int)] w fun e w'=>e=vd/\QS w' bp (t :: r) t.at_ er/\UB bp w w':=by
 obtain ⟨b',o,c,n,hn,hl,hc,hm,⟨c0,c1,c2,c3⟩,⟨z0,z1,z2,z3⟩,f4,f5,f6⟩:=hp.head;have hlt:=hp.lt;have HT:=Hi (tok w bp 0 0 t r hp);have HP:=Hi hp;clear hn hp;go_enter Tryz.func58,Tryz.ntmps58;go_wp2_with fail
 refine HT.out.mono ?_;rintro e w1 ⟨rfl,hb1⟩;obtain ⟨b',o,c,n,hn,hl,hc,hm,⟨c0,c1,c2,c3⟩,⟨z0,z1,z2,z3⟩,f4,f5,f6⟩:=(HP.out.below hb1).head;have HP1:=Hi (HP.out.below hb1);have HU1:=Hi (q00 (bp:=bp) hb1);have hlt1:=(HP.out.below hb1).lt;clear hb1 hn;go_wp2_with fail
 first | go_end0 | skip
 all_goals first | refine ⟨rfl,?_,?_⟩ | refine bodyPost_ret (results_none rfl _ _ _) rfl ⟨rfl,?_,?_⟩
 ·exact HP1.out.wrong _ _
 ·exact (HU1.out.setCell (fun _=>rfl) _).setCell (fun _=>rfl) _
theorem q6S(w:World)(bp ba wy:Nat)(t:Tk)(r:List Tk)(hp:QS w bp (t :: r) ba wy)(hb:wy≠0) :
  Calls Tryz.prog 91 #[.pointer (some ⟨bp,0,none⟩)] w fun e w'=>e=vd/\Below w.heap.size w w':=by
 obtain ⟨b',o,c,n,hn,hl,hc,hm,⟨c0,c1,c2,c3⟩,⟨z0,z1,z2,z3⟩,f4,f5,f6⟩:=hp.head;have hlt:=hp.lt;have hz:((wy:Int)==0)=false:=V4;clear hn hp;go_enter Tryz.func91,Tryz.ntmps91;go_wp2_with fail
 go_quiet (fail)
 go_wp2_with fail
 first | go_end0 | skip
 all_goals first | exact ⟨rfl,q0f (Below.refl _ _) _⟩ | refine bodyPost_ret (results_none rfl _ _ _) rfl ⟨rfl,q0f (Below.refl _ _) _⟩
theorem q2l(w:World)(bp:Nat)(t:Tk)(r:List Tk)(hp:QS w bp (t :: r) 0 0)(hr:r≠[]) :
  Calls Tryz.prog 91 #[.pointer (some ⟨bp,0,none⟩)] w fun e w'=>e=vd/\QS w' bp r 0 0/\UB bp w w':=by
 obtain ⟨b',o,c,n,hn,hl,hc,hm,⟨c0,c1,c2,c3⟩,⟨z0,z1,z2,z3⟩,f4,f5,f6⟩:=hp.head;have hlt:=hp.lt;have HO:=Hi fun k:Nat=>(hp.below (q0f (Below.refl _ _) k)).on (n:=n) (show (w.drewN k).cell? ⟨bp,1,none⟩=_ from c1)
 have hrl:0 < r.length:=List.length_pos_iff.2 hr;clear hn hp hr;go_enter Tryz.func91,Tryz.ntmps91;go_wp2_with fail
 go_quiet (fail)
 go_wp2_with fail
 first | go_end0 | skip
 all_goals first | refine ⟨rfl,?_,?_⟩ | refine bodyPost_ret (results_none rfl _ _ _) rfl ⟨rfl,?_,?_⟩
 ·exact HO.out _
 ·exact (q00 (bp:=bp) (q0f (Below.refl _ _) _)).setCell (fun _=>rfl) _
theorem q04(w:World)(bp ba wy:Nat)(t:Tk)(r:List Tk)(b:Bs)(hp:QS w bp (t :: r) ba wy)(hb:wy≠0\/isS b t=false) :
  Calls Tryz.prog 53 #[.pointer (some ⟨bp,0,none⟩),.string ⟨b.toArray⟩] w fun e w'=>e = .returned (.bool false)/\Below w.heap.size w w':=by
 have HT:=Hi (tok w bp ba wy t r hp);have HP:=Hi hp;have hlt:=hp.lt;have hc:wy≠0\/(wy = 0/\t.k<=2)\/(wy = 0/\2 < t.k/\(t.s==b)=false):=by
  by_cases h0:wy = 0
  ·rcases hb with hb | hb
   ·exact absurd h0 hb
   ·unfold isS at hb;by_cases h2:2 < t.k
    ·exact .inr (.inr ⟨h0,h2,by simpa [h2] using hb⟩)
    ·exact .inr (.inl ⟨h0,V0⟩)
  ·exact .inl h0
 clear hp hb;rcases hc with h | ⟨rfl,h⟩ | ⟨rfl,h,h3⟩
 ·have hz:((wy:Int)==0)=false:=by simp;omega
  exact V1b
 ·exact V1b
 ·exact V1b
theorem q0z(w:World)(bp:Nat)(t:Tk)(r:List Tk)(b:Bs)(hp:QS w bp (t :: r) 0 0)(hb:isS b t=true)(hr:r≠[]) :
  Calls Tryz.prog 53 #[.pointer (some ⟨bp,0,none⟩),.string ⟨b.toArray⟩] w fun e w'=>e = .returned (.bool true)/\QS w' bp r 0 0/\UB bp w w':=by
 have HT:=Hi (tok w bp 0 0 t r hp);have HP:=Hi hp;have hlt:=hp.lt;have HR:=Hi hr;unfold isS at hb;simp only [Bool.and_eq_true,decide_eq_true_eq] at hb;obtain ⟨h2,h3⟩:=hb;clear hp hr;go_enter Tryz.func53,Tryz.ntmps53;go_wp2_with fail
 refine HT.out.mono ?_;rintro e w1 ⟨rfl,hb1⟩;obtain ⟨b',o,c,n,hn,hl,hc,hm,⟨c0,c1,c2,c3⟩,⟨z0,z1,z2,z3⟩,f4,f5,f6⟩:=(HP.out.below hb1).head;have hlt1:=(HP.out.below hb1).lt;have HB1:=Hi hb1;have HO:=Hi fun (w2:World) (h:Below w1.heap.size w1 w2)=>q2l w2 bp t r ((HP.out.below hb1).below h) HR.out
 clear hb1 hn;go_wp2_with fail
 refine (HO.out _ ((Below.refl _ _).alloc (Nat.le_refl _) _)).mono ?_;rintro e w2 ⟨rfl,hp2,hu2⟩;have HP2:=Hi hp2;have HU2:=Hi (((q00 (bp:=bp) HB1.out).alloc _).trans hu2);clear hp2 hu2;go_wp2_with fail
 go_ret;exact ⟨rfl,HP2.out,HU2.out⟩
end
section
attribute [local go_sem] fTk0 fTk1 fTk2
theorem q2O(w:World)(bp ba wy:Nat)(t:Tk)(r:List Tk)(b:Bs)(hp:QS w bp (t :: r) ba wy)(hw:wy≠0) :
  Calls Tryz.prog 55 #[.pointer (some ⟨bp,0,none⟩),.string ⟨b.toArray⟩] w fun e w'=>e=vd/\Below w.heap.size w w':=by
 have HG:=Hi (q04 w bp ba wy t r b hp (.inl hw));have HP:=Hi hp;have HZ:=Hi hw;clear hp hw;go_enter Tryz.func55,Tryz.ntmps55;go_wp2_with fail
 refine HG.out.mono ?_;rintro e w1 ⟨rfl,hb1⟩;have HB:=Hi (q0r w1 bp ba wy 100 true t r (HP.out.below hb1) (.inr HZ.out));have HB1:=Hi hb1;clear hb1;go_wp2_with fail
 refine HB.out.mono ?_;rintro e w2 ⟨rfl,rfl⟩;go_wp2_with fail
 first | go_end0 | skip
 all_goals first | exact ⟨rfl,HB1.out⟩ | refine bodyPost_ret (results_none rfl _ _ _) rfl ⟨rfl,HB1.out⟩
theorem must_no(w:World)(bp:Nat)(t:Tk)(r:List Tk)(b:Bs)(hp:QS w bp (t :: r) 0 0)(hb:isS b t=false) :
  Calls Tryz.prog 55 #[.pointer (some ⟨bp,0,none⟩),.string ⟨b.toArray⟩] w fun e w'=>e=vd/\QS w' bp (t :: r) t.at_ 100/\UB bp w w':=by
 have HG:=Hi (q04 w bp 0 0 t r b hp (.inr hb));have HP:=Hi hp;clear hp hb;go_enter Tryz.func55,Tryz.ntmps55;go_wp2_with fail
 refine HG.out.mono ?_;rintro e w1 ⟨rfl,hb1⟩;have HB:=Hi (q1w w1 bp 100 t r (HP.out.below hb1));have HU1:=Hi (q00 (bp:=bp) hb1);clear hb1;go_wp2_with fail
 refine HB.out.mono ?_;rintro e w2 ⟨rfl,hp2,hu2⟩;have HP2:=Hi hp2;have HU2:=Hi (HU1.out.trans hu2);clear hp2 hu2;go_wp2_with fail
 first | go_end0 | skip
 all_goals first | exact ⟨rfl,HP2.out,HU2.out⟩ | refine bodyPost_ret (results_none rfl _ _ _) rfl ⟨rfl,HP2.out,HU2.out⟩
theorem QS.cons{w:World}{bp ba wy:Nat}{l:List Tk}(h:QS w bp l ba wy)(hl:l≠[]):∃ t r,l=t :: r:=by
 cases l with
 | nil=>exact absurd rfl hl
 | cons t r=>exact ⟨t,r,rfl⟩
theorem must_yes(w:World)(bp:Nat)(t:Tk)(r:List Tk)(b:Bs)(hp:QS w bp (t :: r) 0 0)(hb:isS b t=true)(hr:r≠[]) :
  Calls Tryz.prog 55 #[.pointer (some ⟨bp,0,none⟩),.string ⟨b.toArray⟩] w fun e w'=>e=vd/\QS w' bp r 0 0/\UB bp w w':=by
 have HG:=Hi (q0z w bp t r b hp hb hr);obtain ⟨u,q,rfl⟩:=List.exists_cons_of_ne_nil hr;clear hp hb hr;go_enter Tryz.func55,Tryz.ntmps55;go_wp2_with fail
 refine HG.out.mono ?_;rintro e w1 ⟨rfl,hp1,hu1⟩;have HB:=Hi (q0r w1 bp 0 0 100 false u q hp1 (.inl rfl));have HU1:=Hi hu1;have HP1:=Hi hp1;clear hu1 hp1;go_wp2_with fail
 refine HB.out.mono ?_;rintro e w2 ⟨rfl,rfl⟩;go_wp2_with fail
 first | go_end0 | skip
 all_goals first | exact ⟨rfl,HP1.out,HU1.out⟩ | refine bodyPost_ret (results_none rfl _ _ _) rfl ⟨rfl,HP1.out,HU1.out⟩
theorem q4q(w:World)(bp ba wy:Nat)(t:Tk)(r:List Tk)(hp:QS w bp (t :: r) ba wy)(hw:wy≠0) :
  Calls Tryz.prog 56 #[.pointer (some ⟨bp,0,none⟩)] w fun e w'=>e = .returned (.string ⟨t.s.toArray⟩)/\Below w.heap.size w w':=by
 have HT:=Hi fun (w':World) (h:Below w.heap.size w w')=>tok w' bp ba wy t r (hp.below h)
 have HP:=Hi hp;have HZ:=Hi hw;clear hp hw;go_enter Tryz.func56,Tryz.ntmps56;go_wp2_with fail
 refine (HT.out _ (Below.refl _ _)).mono ?_;rintro e w1 ⟨rfl,hb1⟩;have HT1:=Hi (HT.out w1 hb1);have HB1:=Hi hb1;clear hb1;go_wp2_with fail
 refine HT1.out.mono ?_;rintro e w2 ⟨rfl,hb2⟩;have hb2':=HB1.out.trans (hb2.mono HB1.out.size);have HB2:=Hi hb2';have HBD:=Hi fun b:Bool=>q0r w2 bp ba wy 100 b t r (HP.out.below hb2') (.inr HZ.out)
 have HON:=Hi (q6S w2 bp ba wy t r (HP.out.below hb2') HZ.out);clear hb2 hb2' HT HT1;go_wp2_with fail
 all_goals
  refine (HBD.out _).mono ?_;rintro e w' ⟨rfl,rfl⟩;go_wp2_with fail
  refine HON.out.mono ?_;rintro e w3 ⟨rfl,hb3⟩;have HB3:=Hi (HB2.out.trans (hb3.mono HB2.out.size));clear hb3;go_wp2_with fail
  go_ret;exact ⟨rfl,HB3.out⟩
theorem name_no(w:World)(bp:Nat)(t:Tk)(r:List Tk)(hp:QS w bp (t :: r) 0 0)(hk:t.k≠1) :
  Calls Tryz.prog 56 #[.pointer (some ⟨bp,0,none⟩)] w fun e w'=>e = .returned (.string ⟨t.s.toArray⟩)/\QS w' bp (t :: r) t.at_ 100/\UB bp w w':=by
 have HT:=Hi fun (w':World) (h:Below w.heap.size w w')=>tok w' bp 0 0 t r (hp.below h)
 have HP:=Hi hp;have hq:((t.k:Int) != 1)=true:=V4;have hq2:((t.k:Int)==1)=false:=V4;clear hp hk;go_enter Tryz.func56,Tryz.ntmps56;go_wp2_with fail
 refine (HT.out _ (Below.refl _ _)).mono ?_;rintro e w1 ⟨rfl,hb1⟩;have HT1:=Hi (HT.out w1 hb1);have HB1:=Hi hb1;clear hb1;go_wp2_with fail
 refine HT1.out.mono ?_;rintro e w2 ⟨rfl,hb2⟩;have hb2':=HB1.out.trans (hb2.mono HB1.out.size);have HB2:=Hi hb2';have HBD:=Hi (q1w w2 bp 100 t r (HP.out.below hb2'));clear hb2 hb2' HT HT1;go_wp2_with fail
 refine HBD.out.mono ?_;rintro e w3 ⟨rfl,hp3,hu3⟩;have HON:=Hi (q6S w3 bp t.at_ 100 t r hp3 V2);have HP3:=Hi hp3;have HU3:=Hi ((q00 (bp:=bp) HB2.out).trans hu3);clear hp3 hu3;go_wp2_with fail
 refine HON.out.mono ?_;rintro e w4 ⟨rfl,hb4⟩;have HP4:=Hi (HP3.out.below hb4);have HU4:=Hi (HU3.out.trans (q00 hb4));clear hb4;go_wp2_with fail
 go_ret;exact ⟨rfl,HP4.out,HU4.out⟩
theorem name_yes(w:World)(bp:Nat)(t:Tk)(r:List Tk)(hp:QS w bp (t :: r) 0 0)(hk:t.k = 1)(hr:r≠[]) :
  Calls Tryz.prog 56 #[.pointer (some ⟨bp,0,none⟩)] w fun e w'=>e = .returned (.string ⟨t.s.toArray⟩)/\QS w' bp r 0 0/\UB bp w w':=by
 have hT:∀ (w':World) (h:Below w.heap.size w w'),_:=fun w' h=>tok w' bp 0 0 t r (hp.below h)
 rw [hk] at hT;have HT:=Hi hT;have HP:=Hi hp;have HR:=Hi hr;clear hp hk hr hT;go_enter Tryz.func56,Tryz.ntmps56;go_wp2_with fail
 refine (HT.out _ (Below.refl _ _)).mono ?_;rintro e w1 ⟨rfl,hb1⟩;have HT1:=Hi (HT.out w1 hb1);have HB1:=Hi hb1;clear hb1;go_wp2_with fail
 refine HT1.out.mono ?_;rintro e w2 ⟨rfl,hb2⟩;have hb2':=HB1.out.trans (hb2.mono HB1.out.size);have HB2:=Hi hb2';have HBD:=Hi (q0r w2 bp 0 0 100 false t r (HP.out.below hb2') (.inl rfl));have HON:=Hi (q2l w2 bp t r (HP.out.below hb2') HR.out);clear hb2 hb2' HT HT1;go_wp2_with fail
 refine HBD.out.mono ?_;rintro e w' ⟨rfl,rfl⟩;go_wp2_with fail
 refine HON.out.mono ?_;rintro e w3 ⟨rfl,hp3,hu3⟩;have HP3:=Hi hp3;have HU3:=Hi ((q00 (bp:=bp) HB2.out).trans hu3);clear hp3 hu3;go_wp2_with fail
 go_ret;exact ⟨rfl,HP3.out,HU3.out⟩
end
end Pq
end Go.Proofs.YtcgibpdjfgjldaaGreatDoor
