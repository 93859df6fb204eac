/- DERIVED. PaNd, PaAr, PaUn, PaPr, PaPs, PaSg. By an AI agent. -/
import Derived.Test.YtcgibpdjfgjldaaGreatDoorR20
import Derived.Test.YtcgibpdjfgjldaaGreatDoorR02
import Derived.Test.YtcgibpdjfgjldaaGreatDoorR06
import Derived.Deep.DeepCutAuto
import Derived.Deep.CutBlock
set_option maxRecDepth 100000
set_option maxHeartbeats 8000000
set_option linter.unusedVariables false
set_option linter.unusedSimpArgs false
open Go Go.ChangeShapes Go.WideShapes Go.ChangeAt Go.RowKit
namespace Go.Proofs.YtcgibpdjfgjldaaGreatDoor
namespace Pa
open Lx Args
section
attribute [local go_sem] bH bI bJ
def AB(w:World)(bp d:Nat)(l:List Tk)(R:Out->Prop)(e:Ending)(w':World):Prop:=
 (∃ k a s n A la cA B lb cB x r,e = .returned (.agg #[.int .i64 (k:Nat),.string ⟨(s:Bs).toArray⟩,.int .u32 (n:Nat),.int .i64 (a:Nat),.slice A la cA,.slice B lb cB])/\Ak (fun b=>w.heap.size<=b) w' x (bG k a s n A la cA B lb cB)/\R (.ok [x] r) /\
  PS w' bp r d/\Gt r/\r.length < l.length/\UB bp w w') \/
 (∃ a er,e=panV a er/\R (.bad a er)/\UB bp w w')
theorem AB.imp{w:World}{bp d:Nat}{l:List Tk}{R R':Out->Prop}{e:Ending}{w':World}(h:AB w bp d l R e w')(hR:∀ o,R o->R' o):AB w bp d l R' e w':=by
 rcases h with ⟨k,a,s,n,A,la,cA,B,lb,cB,x,r,h1,h2,h3,h4⟩ | ⟨a,er,h1,h2,h3⟩
 ·exact .inl ⟨k,a,s,n,A,la,cA,B,lb,cB,x,r,h1,h2,hR _ h3,h4⟩
 ·exact .inr ⟨a,er,h1,hR _ h2,h3⟩
theorem Ak.up{lo lo':Nat}{w:World}{x:Tr}{c:List Value}(h:Ak (fun b=>lo<=b) w x c)(hl:lo'<=lo):Ak (fun b=>lo'<=b) w x c:=h.mono fun b hb _=>Nat.le_trans hl hb
theorem Ak.far{X:Nat->Prop}{lo:Nat}{w w':World}{x:Tr}{c:List Value}(h:Ak (fun b=>lo<=b) w x c)(hu:Upd X w w')(hX:∀ b,X b->b < lo):Ak (fun b=>lo<=b) w' x c:=h.upd hu fun b hb hx=>V11
theorem q0N{w w1:World}{bp d lo:Nat}{l r:List Tk}{R:Out->Prop}{k a n la cA lb cB:Nat}{s:Bs}{A B:Option Addr}{x:Tr}(hlt:bp < w.heap.size)(hg:w.heap.size < lo)(hT:Ak (fun b=>lo<=b) w1 x (bG k a s n A la cA B lb cB))(hR:R (.ok [x] r))(hP:PS w1 bp r d)(hG:Gt r)(hr:r.length < l.length)(hU:UB bp w w1) :
  AB w bp d l R (.returned (.agg #[.int .i64 (k:Int),.string ⟨s.toArray⟩,.int .u32 (n:Int),.int .i64 (a:Int),.slice A la cA,.slice B lb cB])) (az w1 w.heap.size (.int .i64 (k:Int)) (.string ⟨s.toArray⟩) (.int .u32 (n:Int)) (.int .i64 (a:Int)) (.slice A la cA) (.slice B lb cB)):=by
 have hu:Upd (fun b=>b=w.heap.size) w1 (az w1 w.heap.size (.int .i64 (k:Int)) (.string ⟨s.toArray⟩) (.int .u32 (n:Int)) (.int .i64 (a:Int)) (.slice A la cA) (.slice B lb cB)):=q09 (X:=fun b=>b=w.heap.size) (Upd.refl _ _) (fun _=>rfl) _ _ _ _ _ _;refine .inl ⟨k,a,s,n,A,la,cA,B,lb,cB,x,r,rfl,?_,hR,hP.far hu fun b hb=>V0,hG,hr,?_⟩
 ·exact (Ak.far hT hu fun b hb=>V0).up (Nat.le_of_lt hg)
 ·exact q09 hU (fun h=>absurd h (Nat.lt_irrefl _)) _ _ _ _ _ _
theorem expr(w:World)(bp d:Nat)(l:List Tk)(hp:PS w bp l d)
  (hS:∀ w0,PS w0 bp l d->Calls Tryz.prog 103 #[.pointer (some ⟨bp,0,none⟩),.int .i64 1] w0 (AB w0 bp d l (Rd ag (.aI 0) d l))) :
  Calls Tryz.prog 69 #[.pointer (some ⟨bp,0,none⟩)] w (AB w bp d l (Rd ag (.aI 0) d l)):=by
 obtain ⟨w0,hw0,hb0,hB⟩:=aS w #[.int .i64 0,.string ⟨#[]⟩,.int .u32 0,.int .i64 0,.slice none 0 0,.slice none 0 0] 26;have hlt:=hp.lt;have HS:=Hi (hS w0 (hp.below hb0));have HB0:=Hi hb0;have HB:=Hi hB;have HW:=Hi hw0;clear hb0 hp hw0 hB hS;go_enter Tryz.func69,Tryz.ntmps69;go_wp2_with fail
 rw [HW.out];refine HS.out.mono ?_;rintro e w1 (⟨k,a,s,n,A,la,cA,B,lb,cB,x,r,rfl,hT,hR,hP,hG,hr,hU⟩ | ⟨a,er,rfl,hR,hU⟩)
 ·exact V2j
 ·exact V36
theorem AB.below{w:World}{bp d:Nat}{l:List Tk}{R:Out->Prop}{e:Ending}{w1 w2:World}(h:AB w bp d l R e w1)(hb:Below w1.heap.size w1 w2):AB w bp d l R e w2:=by
 rcases h with ⟨k,a,s,n,A,la,cA,B,lb,cB,x,r,h1,h2,h3,h4,h5,h6,h7⟩ | ⟨a,er,h1,h2,h3⟩
 ·exact .inl ⟨k,a,s,n,A,la,cA,B,lb,cB,x,r,h1,h2.upd (Upd.of_below hb fun _=>False) (fun _ _ h=>h),h3,h4.below hb,h5,h6,h7.trans (q01 hb)⟩
 ·exact .inr ⟨a,er,h1,h2,h3.trans (q01 hb)⟩
theorem PS.dc{w:World}{bp d:Nat}{l:List Tk}(h:PS w bp l d):w.cell? ⟨bp,1,none⟩=some (.int .i64 (d:Int))/\w.frozen? ⟨bp,1,none⟩=false:=by
 obtain ⟨b,o,c,_,h1,_⟩:=h;exact ⟨h1.cell 1,h1.frozen 1⟩
theorem q1O(F:Nat)(w:World)(bp:Nat)(t:Tk)(r:List Tk)(hp:PS w bp (t :: r) 60) :
  Calls Tryz.prog 160 #[.pointer (some ⟨bp,0,none⟩),.func (.func F) #[.pointer (some ⟨bp,0,none⟩)] #[]] w fun e w'=>e=panV t.at_ 150/\UB bp w w':=by
 obtain ⟨w0,hw0,hb0,-⟩:=aS w #[.int .i64 0,.string ⟨#[]⟩,.int .u32 0,.int .i64 0,.slice none 0 0,.slice none 0 0] 26;have HH:=Hi (here w0 bp 60 t r 150 (hp.below hb0));obtain ⟨f1,f3⟩:=hp.dc;have hlt:=hp.lt;have HB0:=Hi hb0;have HW:=Hi hw0;clear hb0 hp hw0;go_enter Tryz.func160,Tryz.ntmps160;go_wp2_with fail
 rw [HW.out];refine HH.out.mono ?_;rintro e w1 ⟨rfl,hb1⟩;have HB1:=Hi (HB0.out.trans (hb1.mono HB0.out.size));clear hb1;go_wp2_with fail
 exact ⟨rfl,rfl,q01 HB1.out⟩
theorem q4G(R:Out->Prop)(w:World)(bp d:Nat)(l:List Tk)(hd:d < 60)(hp:PS w bp l d)
  (hS:∀ w0,PS w0 bp l (d+1)->Calls Tryz.prog 69 #[.pointer (some ⟨bp,0,none⟩)] w0 (AB w0 bp (d+1) l R)) :
  Calls Tryz.prog 160 #[.pointer (some ⟨bp,0,none⟩),.func (.func 69) #[.pointer (some ⟨bp,0,none⟩)] #[]] w (AB w bp d l R):=by
 obtain ⟨f1,f3⟩:=hp.dc;have hlt:=hp.lt;have hne:((d:Int)==60)=false:=V4;obtain ⟨w0,hw0⟩:∃ w0,(w.setCell ⟨bp,1,none⟩ (.int .i64 ((d:Int)+1))).alloc (.cells #[.int .i64 0,.string ⟨#[]⟩,.int .u32 0,.int .i64 0,.slice none 0 0,.slice none 0 0] 26)=w0:=⟨_,rfl⟩;have hsz:(w.setCell ⟨bp,1,none⟩ (.int .i64 ((d:Int)+1))).heap.size=w.heap.size:=V3;have hp0:PS w0 bp l (d+1):=by
  exact V1g
 have hB:Aa w0 w.heap.size 26 #[.int .i64 0,.string ⟨#[]⟩,.int .u32 0,.int .i64 0,.slice none 0 0,.slice none 0 0]:=V1M;have hU0:UB bp w w0:=V1o;have HS:=Hi (hS w0 hp0);have HB:=Hi hB;have HW:=Hi hw0;have Bc:=Hi hU0;clear hp hp0 hB hU0 hw0 hS hsz;go_enter Tryz.func160,Tryz.ntmps160;go_wp2_with fail
 rw [HW.out];refine HS.out.mono ?_;rintro e w1 (⟨k,a,s,n,A,la,cA,B,lb,cB,x,r,rfl,hT,hR,hP,hG,hr,hU⟩ | ⟨a,er,rfl,hR,hU⟩)
 ·exact V19
 ·exact V1h
theorem q49(R:Out->Prop)(w:World)(bp d:Nat)(l:List Tk)(hd:d < 60)(hp:PS w bp l d)
  (hS:∀ w0,PS w0 bp l (d+1)->Calls Tryz.prog 127 #[.pointer (some ⟨bp,0,none⟩)] w0 (AB w0 bp (d+1) l R)) :
  Calls Tryz.prog 160 #[.pointer (some ⟨bp,0,none⟩),.func (.func 127) #[.pointer (some ⟨bp,0,none⟩)] #[]] w (AB w bp d l R):=by
 obtain ⟨f1,f3⟩:=hp.dc;have hlt:=hp.lt;have hne:((d:Int)==60)=false:=V4;obtain ⟨w0,hw0⟩:∃ w0,(w.setCell ⟨bp,1,none⟩ (.int .i64 ((d:Int)+1))).alloc (.cells #[.int .i64 0,.string ⟨#[]⟩,.int .u32 0,.int .i64 0,.slice none 0 0,.slice none 0 0] 26)=w0:=⟨_,rfl⟩;have hsz:(w.setCell ⟨bp,1,none⟩ (.int .i64 ((d:Int)+1))).heap.size=w.heap.size:=V3;have hp0:PS w0 bp l (d+1):=by
  exact V1g
 have hB:Aa w0 w.heap.size 26 #[.int .i64 0,.string ⟨#[]⟩,.int .u32 0,.int .i64 0,.slice none 0 0,.slice none 0 0]:=V1M;have hU0:UB bp w w0:=V1o;have HS:=Hi (hS w0 hp0);have HB:=Hi hB;have HW:=Hi hw0;have Bc:=Hi hU0;clear hp hp0 hB hU0 hw0 hS hsz;go_enter Tryz.func160,Tryz.ntmps160;go_wp2_with fail
 rw [HW.out];refine HS.out.mono ?_;rintro e w1 (⟨k,a,s,n,A,la,cA,B,lb,cB,x,r,rfl,hT,hR,hP,hG,hr,hU⟩ | ⟨a,er,rfl,hR,hU⟩)
 ·exact V19
 ·exact V1h
theorem q4a(R:Out->Prop)(w:World)(bp d:Nat)(l:List Tk)(hd:d < 60)(hp:PS w bp l d)
  (hS:∀ w0,PS w0 bp l (d+1)->Calls Tryz.prog 154 #[.pointer (some ⟨bp,0,none⟩)] w0 (AB w0 bp (d+1) l R)) :
  Calls Tryz.prog 160 #[.pointer (some ⟨bp,0,none⟩),.func (.func 154) #[.pointer (some ⟨bp,0,none⟩)] #[]] w (AB w bp d l R):=by
 obtain ⟨f1,f3⟩:=hp.dc;have hlt:=hp.lt;have hne:((d:Int)==60)=false:=V4;obtain ⟨w0,hw0⟩:∃ w0,(w.setCell ⟨bp,1,none⟩ (.int .i64 ((d:Int)+1))).alloc (.cells #[.int .i64 0,.string ⟨#[]⟩,.int .u32 0,.int .i64 0,.slice none 0 0,.slice none 0 0] 26)=w0:=⟨_,rfl⟩;have hsz:(w.setCell ⟨bp,1,none⟩ (.int .i64 ((d:Int)+1))).heap.size=w.heap.size:=V3;have hp0:PS w0 bp l (d+1):=by
  exact V1g
 have hB:Aa w0 w.heap.size 26 #[.int .i64 0,.string ⟨#[]⟩,.int .u32 0,.int .i64 0,.slice none 0 0,.slice none 0 0]:=V1M;have hU0:UB bp w w0:=V1o;have HS:=Hi (hS w0 hp0);have HB:=Hi hB;have HW:=Hi hw0;have Bc:=Hi hU0;clear hp hp0 hB hU0 hw0 hS hsz;go_enter Tryz.func160,Tryz.ntmps160;go_wp2_with fail
 rw [HW.out];refine HS.out.mono ?_;rintro e w1 (⟨k,a,s,n,A,la,cA,B,lb,cB,x,r,rfl,hT,hR,hP,hG,hr,hU⟩ | ⟨a,er,rfl,hR,hU⟩)
 ·exact V19
 ·exact V1h
end
section
attribute [local go_sem] bH bI bJ
def ExC(n:Nat):Prop:=∀ (w:World) (bp d:Nat) (l:List Tk),l.length<=n->d<=60->PS w bp l d->Gt l ->
 Calls Tryz.prog 69 #[.pointer (some ⟨bp,0,none⟩)] w (AB w bp d l (Rd ag (.aI 0) d l))
theorem q3z{n:Nat}(H:ExC n)(w:World)(bp d:Nat)(l:List Tk)(hn:l.length<=n)(hd:d<=60)(hp:PS w bp l d)(hg:Gt l) :
  Calls Tryz.prog 160 #[.pointer (some ⟨bp,0,none⟩),.func (.func 69) #[.pointer (some ⟨bp,0,none⟩)] #[]] w (AB w bp d l (Rd ag (.aI 0) (d+1) l)):=by
 rcases Nat.lt_or_ge d 60 with h | h
 ·exact q4G _ w bp d l h hp fun w0 hp0=>H w0 bp (d+1) l hn V0 hp0 hg
 ·obtain rfl:d = 60:=by omega
  obtain ⟨t,r,rfl⟩:=hg.cons;exact (q1O _ w bp t r hp).mono fun e w' h=>.inr ⟨_,_,h.1,q6d V0,h.2⟩
theorem ar_ok{num:Bs->Nat×Nat}{d a:Nat}{s:Bs}{r r1 r3:List Tk}{x:Tr}{xs:List Tr}{v:Tk}(h:Rd num (.aI 0) (d+1) r (.ok [x] r1))(h2:Rd num (.args [x]) (d+1) r1 (.ok xs (v :: r3)))(hv:ak [41] v=true):Ev (fun f=>ArK num f d a s r) (.ok [.mk 5 a s 0 [] xs] r3):=
 q0x (K:=fun f xs r''=>bnd (pF num f (.args xs) (d+1) r'') fun ys r3=>must [41] r3 fun r4=>some (.ok [.mk 5 a s 0 [] ys] r4)) h
  (q0x (K:=fun _ ys r3=>must [41] r3 fun r4=>some (.ok [.mk 5 a s 0 [] ys] r4)) h2 (q0v (q0a _) fun _=>q0F hv _))
theorem q8v{num:Bs->Nat×Nat}{d a:Nat}{s:Bs}{r r1 r3:List Tk}{x:Tr}{xs:List Tr}{v:Tk}(h:Rd num (.aI 0) (d+1) r (.ok [x] r1))(h2:Rd num (.args [x]) (d+1) r1 (.ok xs (v :: r3)))(hv:ak [41] v=false):Ev (fun f=>ArK num f d a s r) (.bad v.at_ 100):=
 q0x (K:=fun f xs r''=>bnd (pF num f (.args xs) (d+1) r'') fun ys r3=>must [41] r3 fun r4=>some (.ok [.mk 5 a s 0 [] ys] r4)) h
  (q0x (K:=fun _ ys r3=>must [41] r3 fun r4=>some (.ok [.mk 5 a s 0 [] ys] r4)) h2 (q0v (q0a _) fun _=>q1p hv _))
theorem q6m{num:Bs->Nat×Nat}{d a p e:Nat}{s:Bs}{r r1:List Tk}{x:Tr}(h:Rd num (.aI 0) (d+1) r (.ok [x] r1))(h2:Rd num (.args [x]) (d+1) r1 (.bad p e)):Ev (fun f=>ArK num f d a s r) (.bad p e):=
 q0x (K:=fun f xs r''=>bnd (pF num f (.args xs) (d+1) r'') fun ys r3=>must [41] r3 fun r4=>some (.ok [.mk 5 a s 0 [] ys] r4)) h
  (q0X (K:=fun _ ys r3=>must [41] r3 fun r4=>some (.ok [.mk 5 a s 0 [] ys] r4)) h2)
theorem q8w{num:Bs->Nat×Nat}{d a p e:Nat}{s:Bs}{r:List Tk}(h:Rd num (.aI 0) (d+1) r (.bad p e)):Ev (fun f=>ArK num f d a s r) (.bad p e):=
 q0X (K:=fun f xs r''=>bnd (pF num f (.args xs) (d+1) r'') fun ys r3=>must [41] r3 fun r4=>some (.ok [.mk 5 a s 0 [] ys] r4)) h
def ArP(w:World)(bp d:Nat)(l:List Tk)(q:List Tk)(e:Ending)(w':World):Prop:=
 (∃ g c xs r,e = .returned (.slice (some ⟨g,0,none⟩) xs.length c)/\AY 26 w.heap.size w' g c xs/\xs.length<=4000/\(∀ a s,Ev (fun f=>ArK ag f d a s q) (.ok [.mk 5 a s 0 [] xs] r))/\PS w' bp r d/\Gt r/\r.length < l.length/\UB bp w w') \/
 (∃ a er,e=panV a er/\(∀ p s,Ev (fun f=>ArK ag f d p s q) (.bad a er))/\UB bp w w')
structure ArI(w:World)(bp d:Nat)(q:List Tk)(x0:Tr)(r1:List Tk)(xs:List Tr)(l:List Tk)(g c:Nat)(W:World):Prop where
 rd:∀ o,Rd ag (.args xs) (d+1) l o->Rd ag (.args [x0]) (d+1) r1 o
 ps:PS W bp l d
 gt:Gt l
 lt:l.length < q.length
 arr:AY 26 w.heap.size W g c xs
 few:xs.length+l.length<=4000
 ub:UB bp w W
theorem infoNd:(Tryz.prog.info? 26).map (fun i=>(i.zero,i.size,i.bytes))=some (some (.agg #[.int .i64 0,.string ⟨#[]⟩,.int .u32 0,.int .i64 0,.slice none 0 0,.slice none 0 0]),6,88):=V1
theorem arguments{n:Nat}(H:ExC n)(w:World)(bp d:Nat)(u:Tk)(q:List Tk)(hn:q.length<=n)(hd:d<=60)(hp:PS w bp (u :: q) d)(hg:Gt (u :: q))(hu:(u.s==[40])=true) :
  Calls Tryz.prog 187 #[.pointer (some ⟨bp,0,none⟩)] w (ArP w bp d (u :: q) q):=by
 have hlt:=hp.lt;obtain ⟨i0,hi,hz⟩:=Option.map_eq_some_iff.1 infoNd;have hz0:=congrArg (·.1) hz;have hz1:=congrArg (·.2.1) hz;have hz2:=congrArg (·.2.2) hz;have HI:=Hi hi;have HZ0:=Hi hz0;have HZ1:=Hi hz1;have HZ2:=Hi hz2;clear hi hz hz0 hz1 hz2;have hk:u.k≠0:=by
  have:=q0A hg.hd (by rw [eq_of_beq hu];decide);omega
 have hgq:=hg.tail hk;obtain ⟨t0,q0,hq0⟩:=hgq.cons;have HM:=Hi (must_yes w bp d u q [40] hp hu (by rw [hq0];simp));have HGQ:=Hi hgq;clear hp hg hu hk hgq hq0;go_enter Tryz.func187,Tryz.ntmps187;go_wp2_with fail
 refine HM.out.mono ?_;rintro e w1 ⟨rfl,hp1,hu1⟩;have HE:=Hi (q3z H w1 bp d q hn hd hp1 HGQ.out);have Aj:=Hi hu1;clear hp1 hu1;go_wp2_with fail
 refine HE.out.mono ?_;rintro e w2 (⟨k,a,s,m,A,la,cA,B,lb,cB,x,r,rfl,hT,hR,hP,hG,hr,hU⟩ | ⟨a,er,rfl,hR,hU⟩);rotate_left
 ·have HR:=Hi hR;have HU:=Hi (Aj.out.trans hU);clear hR hU;go_wp2_with fail
  exact ⟨rfl,.inr ⟨a,er,rfl,fun p s=>q8w HR.out,HU.out⟩⟩
 have hJ:ArI w bp d (u :: q) x r [x] r w2.heap.size 1 (w2.alloc (.cells #[.int .i64 (k:Int),.string ⟨s.toArray⟩,.int .u32 (m:Int),.int .i64 (a:Int),.slice A la cA,.slice B lb cB] 26)):=
  ⟨fun o h=>h,hP.below ((Below.refl _ _).alloc (Nat.le_refl _) _),hG,V4,AY.first (hT.up Aj.out.size) (Aj.out.trans hU).size,by have:=HGQ.out.few;simp;omega,(Aj.out.trans hU).alloc _⟩
 have HJ:=Hi hJ;have HR0:=Hi hR;clear hJ hT hR hP hG hU;go_wp2_with fail
 go_loopw [3] (fun vl wr=>∃ xs l' g c,vl = .slice (some ⟨g,0,none⟩) xs.length c/\Hid (ArI w bp d (u :: q) x r xs l' g c wr)) (fun _ wr=>lenAt wr bp)
 case atStart=>exact ⟨[x],r,_,_,rfl,HJ⟩
 case round=>
  clear HJ;obtain ⟨xs,l',g,c,rfl,HH⟩:=hrel;obtain ⟨t,r',rfl⟩:=HH.out.gt.cons;have HIS:=Hi (is_ wr bp d t r' [44] HH.out.ps);by_cases hc:(t.s==[44])=true
  ·rw [hc] at HIS;have hk:t.k≠0:=by
    have:=q0A HH.out.gt.hd V23;omega
   have hon:ak [44] t=true:=by rw [q0q HH.out.gt.hd V2];exact hc
   have hgr:=HH.out.gt.tail hk;obtain ⟨t2,r2,hr2⟩:=hgr.cons;have hln:r'.length<=n:=by have:=HH.out.lt;simp at this;omega
   have HT:=Hi fun (w3:World) (hb3:Below wr.heap.size wr w3)=>take w3 bp d t r' (HH.out.ps.below hb3) Vf
   have HGR:=Hi hgr;clear hc hgr hr2;go_wp2_with fail
   refine HIS.out.mono ?_;rintro e w3 ⟨rfl,hb3⟩;have HT3:=Hi (HT.out w3 hb3);have HB3:=Hi hb3;clear hb3 HT;go_wp2_with fail
   refine HT3.out.mono ?_;rintro e w4 ⟨rfl,hp4,aF⟩;have HE4:=Hi (q3z H w4 bp d r' hln hd hp4 HGR.out);have AO:=Hi ((q01 (bp:=bp) HB3.out).trans aF);clear hp4 aF;go_wp2_with fail
   refine HE4.out.mono ?_;rintro e w5 (⟨k',a',s',m',A',la',bu,B',lb',bA,x',r5,rfl,hT,hR,hP,hG,hr,hU⟩ | ⟨a',er,rfl,hR,hU⟩)
   ·obtain ⟨css,how,hts⟩:=HH.out.arr;have bn:UB bp wr w5:=AO.out.trans hU;have hT5:Ak (fun b=>wr.heap.size<=b) w5 x' (bG k' a' s' m' A' la' bu B' lb' bA):=hT.up AO.out.size;have HOA:=Hi (World.ownsRow.alloc (q0O how bn V0V) (.cells #[.int .i64 (k':Int),.string ⟨s'.toArray⟩,.int .u32 (m':Int),.int .i64 (a':Int),.slice A' la' bu,.slice B' lb' bA] 26));have HLI:=Hi (q06 w5 26 (bG k' a' s' m' A' la' bu B' lb' bA));have hsz:w.heap.size<=w5.heap.size:=Nat.le_trans HH.out.ub.size bn.size;have HBS:=Hi (show w.heap.size<=(w5.alloc (.cells #[.int .i64 (k':Int),.string ⟨s'.toArray⟩,.int .u32 (m':Int),.int .i64 (a':Int),.slice A' la' bu,.slice B' lb' bA] 26)).heap.size from V4);have hfew:=HH.out.few;simp only [List.length_cons] at hfew;have HOW:=Hi how;have HTS:=Hi hts;have AR:=Hi bn;have HT5:=Hi hT5;have HR5:=Hi hR;have HP5:=Hi hP;have HG5:=Hi hG;clear how hts bn hT5 hT hR hP hG hU hsz;go_wp2_with (at_builtin;refine q0d rfl _ _ 23 rfl w.heap.size 26 i0 (.agg #[.int .i64 0,.string ⟨#[]⟩,.int .u32 0,.int .i64 0,.slice none 0 0,.slice none 0 0]) 6 88 Tryz.underlying23 HI.out HZ0.out HZ1.out HZ2.out rfl V2 _ xs.length _ rfl HOA.out ⟨w5.heap.size,0,none⟩ 1 1 (bG k' a' s' m' A' la' bu B' lb' bA) rfl rfl HLI.out VN V6 V0 HBS.out V2 ?_;intro g8 c8 w8 hE;have HE8:=Hi hE;clear hE)
    have HST:=Hi (q1D HOW.out HTS.out hlt AR.out HT5.out HE8.out);have HJ8:Hid (ArI w bp d (u :: q) x r (xs ++ [x']) r5 g8 c8 w8):=Hi ⟨fun o h=>HH.out.rd o (q8u hon HR5.out h),HP5.out.far HST.out.2.2 fun b hb=>by have:=(q0Q HOW.out).1;omega,HG5.out,V1N,HST.out.1,V4,HST.out.2.1 w (Nat.le_refl _) HH.out.ub⟩
    go_roundw
    case rel=>exact ⟨xs ++ [x'],r5,g8,c8,V0t,HJ8⟩
    case measure=>
     rw [PS.len HJ8.out.ps,PS.len HH.out.ps];simp;omega
   ·have HR:=Hi hR;have HU:=Hi ((HH.out.ub.trans AO.out).trans hU);clear hR hU;go_wp2_with fail
    exact ⟨rfl,.inr ⟨a',er,rfl,fun p s=>q6m HR0.out (HH.out.rd _ (q38 hon HR.out)),HU.out⟩⟩
  ·have hc':(t.s==[44])=false:=by simpa using hc
   rw [hc'] at HIS;have hon:ak [44] t=false:=by rw [q0q HH.out.gt.hd V2];exact hc'
   clear hc hc';go_wp2_with fail
   refine HIS.out.mono ?_;rintro e w3 ⟨rfl,hb3⟩;by_cases hv:(t.s==[41])=true
   ·have hk:t.k≠0:=by
     have:=q0A HH.out.gt.hd (by rw [eq_of_beq hv];decide);omega
    have hgr:=HH.out.gt.tail hk;obtain ⟨t2,r2,hr2⟩:=hgr.cons;have HM3:=Hi (must_yes w3 bp d t r' [41] (HH.out.ps.below hb3) hv Vf);have hon2:ak [41] t=true:=by rw [q0q HH.out.gt.hd V2];exact hv
    have HB3:=Hi hb3;have HGR:=Hi hgr;clear hb3 hv hgr hr2;go_wp2_with fail
    refine HM3.out.mono ?_;rintro e w4 ⟨rfl,hp4,aF⟩;have HP4:=Hi hp4;have AO:=Hi aF;clear hp4 aF;go_wp2_with fail
    go_ret;have aF:UB bp wr w4:=(q01 HB3.out).trans AO.out;refine .inl ⟨g,c,xs,r',rfl,HH.out.arr.upd aF (fun b hb=>V0),by have:=HH.out.few;omega,fun p s=>ar_ok HR0.out (HH.out.rd _ (q1j hon)) hon2,HP4.out,HGR.out,V1N,HH.out.ub.trans aF⟩
   ·have hv':(t.s==[41])=false:=by simpa using hv
    have HM3:=Hi (must_no w3 bp d t r' [41] (HH.out.ps.below hb3) hv');have hon2:ak [41] t=false:=by rw [q0q HH.out.gt.hd V2];exact hv'
    have HB3:=Hi hb3;clear hb3 hv hv';go_wp2_with fail
    refine HM3.out.mono ?_;rintro e w4 ⟨rfl,aF⟩;have AO:=Hi aF;clear aF;go_wp2_with fail
    exact ⟨rfl,.inr ⟨t.at_,100,rfl,fun p s=>q8v HR0.out (HH.out.rd _ (q1j hon)) hon2,HH.out.ub.trans ((q01 HB3.out).trans AO.out)⟩⟩
end
section
attribute [local go_sem] bH bI bJ
def UnC(n:Nat):Prop:=∀ (w:World) (bp d:Nat) (l:List Tk),l.length<=n->d<=60->PS w bp l d->Gt l ->
 Calls Tryz.prog 127 #[.pointer (some ⟨bp,0,none⟩)] w (AB w bp d l (Rd ag (.aI 5) d l))
theorem q7H{n:Nat}(H:UnC n)(w:World)(bp d:Nat)(l:List Tk)(hn:l.length<=n)(hd:d<=60)(hp:PS w bp l d)(hg:Gt l) :
  Calls Tryz.prog 160 #[.pointer (some ⟨bp,0,none⟩),.func (.func 127) #[.pointer (some ⟨bp,0,none⟩)] #[]] w (AB w bp d l (Rd ag (.aI 5) (d+1) l)):=by
 rcases Nat.lt_or_ge d 60 with h | h
 ·exact q49 _ w bp d l h hp fun w0 hp0=>H w0 bp (d+1) l hn V0 hp0 hg
 ·obtain rfl:d = 60:=by omega
  obtain ⟨t,r,rfl⟩:=hg.cons;exact (q1O _ w bp t r hp).mono fun e w' h=>.inr ⟨_,_,h.1,q3y V0,h.2⟩
def K3(g:Nat)(t:Tk)(w:World):Prop:=w.cell? ⟨g,0,none⟩=some (.int .i64 (t.k:Int))/\w.cell? ⟨g,1,none⟩=some (.string ⟨t.s.toArray⟩)/\w.cell? ⟨g,2,none⟩=some (.int .i64 (t.at_:Int))
theorem K3.of{g:Nat}{t:Tk}{w:World}{ty:TypeId}(h:Aa w g ty #[.int .i64 (t.k:Int),.string ⟨t.s.toArray⟩,.int .i64 (t.at_:Int)]):K3 g t w:=⟨h.cell 0,h.cell 1,h.cell 2⟩
theorem q6n{lo:Nat}{w1:World}{x:Tr}{cs:List Value}(hT:Ak (fun b=>lo<=b) w1 x cs)(hlo:lo<=w1.heap.size)(e:TypeId)(k a:Nat)(s:Bs) :
  Ak (fun b=>lo<=b) (w1.alloc (.cells cs.toArray e)) (.mk k a s 0 [] [x]) (bG k a s 0 (some ⟨w1.heap.size,0,none⟩) 1 1 none 0 0):=
 (AY.first (e:=e) hT hlo).node V3 k a 0 s
theorem q7I{n:Nat}(H:UnC n)(w:World)(bp d:Nat)(t:Tk)(r:List Tk)(hn:r.length<=n)(hd:d<=60)(hp:PS w bp (t :: r) d)(hg:Gt (t :: r))(ht:(ak [126] t || ak [45] t)=true) :
  Calls Tryz.prog 127 #[.pointer (some ⟨bp,0,none⟩)] w (AB w bp d (t :: r) (Rd ag (.aI 5) d (t :: r))):=by
 have hlt:=hp.lt;have hk:t.k≠0:=fun h=>by rw [q0s V0,q0s V0] at ht;cases ht
 have hgr:=hg.tail hk;obtain ⟨t2,r2,hr2⟩:=hgr.cons;have hne:r≠[]:=Vf;obtain ⟨w0,hw0,hb0,hB⟩:=aS w #[.int .i64 0,.string ⟨#[]⟩,.int .u32 0,.int .i64 0,.slice none 0 0,.slice none 0 0] 26;have hp0:=hp.below hb0;have HI1:=Hi (is_ w0 bp d t r [126] hp0);have HI2:=Hi fun (w':World) (hb:Below w0.heap.size w0 w')=>is_ w' bp d t r [45] (hp0.below hb)
 have HTK:=Hi fun (w':World) (hb:Below w0.heap.size w0 w')=>take w' bp d t r (hp0.below hb) hne
 have HB0:=Hi hb0;have HB:=Hi hB;have HW:=Hi hw0;have HGR:=Hi hgr;have hcase:((t.s==[126])=true)\/((t.s==[126])=false/\(t.s==[45])=true):=by
  rw [q0q hg.hd V2,q0q hg.hd V2] at ht;cases h1:(t.s==[126])
  ·rw [h1] at ht;exact .inr ⟨rfl,by simpa using ht⟩
  ·exact .inl rfl
 have HTT:=Hi ht;clear hb0 hp hp0 hw0 hB hgr hr2 hg ht hk hne;rcases hcase with hc | ⟨hc,hc2⟩
 ·rw [hc] at HI1;clear hc HI2;go_enter Tryz.func127,Tryz.ntmps127;go_wp2_with fail
  rw [HW.out];refine HI1.out.mono ?_;rintro e w1 ⟨rfl,hb1⟩;have HT1:=Hi (HTK.out w1 hb1);have Aj:=Hi ((q01 (bp:=bp) HB0.out).trans (q01 hb1));have HBX:=Hi (HB.out.below hb1 HB.out.lt);clear hb1 HI1 HTK;exact V29
 ·rw [hc] at HI1;go_enter Tryz.func127,Tryz.ntmps127;go_wp2_with fail
  rw [HW.out];refine HI1.out.mono ?_;rintro e w9 ⟨rfl,hb9⟩;have hi2:=HI2.out w9 hb9;rw [hc2] at hi2;have HI3:=Hi hi2;have HB9:=Hi hb9;clear hb9 hi2 hc hc2 HI2 HI1;go_wp2_with fail
  refine HI3.out.mono ?_;rintro e w1 ⟨rfl,hb1⟩;have HT1:=Hi (HTK.out w1 (HB9.out.trans (hb1.mono HB9.out.size)));have Aj:=Hi (((q01 (bp:=bp) HB0.out).trans (q01 HB9.out)).trans (q01 hb1));have HBX:=Hi ((HB.out.below HB9.out HB.out.lt).below hb1 (Nat.lt_of_lt_of_le HB.out.lt HB9.out.size));clear hb1 HTK HI3 HB9;exact V29
end
section
attribute [local go_sem] bH bI bJ
theorem q7J(w:World)(bp d:Nat)(t:Tk)(r:List Tk)(hd:d<=60)(hp:PS w bp (t :: r) d)(hg:Gt (t :: r))(hk:t.k = 2) :
  Calls Tryz.prog 159 #[.pointer (some ⟨bp,0,none⟩)] w (AB w bp d (t :: r) (Rd ag (.aI 5) d (t :: r))):=by
 have hlt:=hp.lt;have hgr:=hg.tail V0;obtain ⟨t2,r2,hr2⟩:=hgr.cons;have hne:r≠[]:=Vf;obtain ⟨w0,hw0,hb0,hB⟩:=aS w #[.int .i64 0,.string ⟨#[]⟩,.int .u32 0,.int .i64 0,.slice none 0 0,.slice none 0 0] 26;have hn:=next w0 bp d t r (hp.below hb0);have HKQ:=Hi hk;have hq:((t.k:Int)==2)=true:=by rw [hk];rfl
 have HN:=Hi hn;have HNU:=Hi fun (w':World) (hb:Below w0.heap.size w0 w')=>number w' bp d t r ((hp.below hb0).below hb) (hg.ok t (List.mem_cons_self ..)).2 hne
 have HB0:=Hi hb0;have HB:=Hi hB;have HW:=Hi hw0;have HGR:=Hi hgr;clear hb0 hp hw0 hB hgr hr2 hg hk hn hne;go_enter Tryz.func159,Tryz.ntmps159;go_wp2_with fail
 rw [HW.out];refine HN.out.mono ?_;rintro e w1 ⟨rfl,hb1⟩;obtain ⟨w2,hw2⟩:∃ w2,w1.alloc (.cells #[.int .i64 (t.k:Int),.string ⟨t.s.toArray⟩,.int .i64 (t.at_:Int)] 63)=w2:=⟨_,rfl⟩;have hb2:Below w0.heap.size w0 w2:=Vg;have HW2:=Hi hw2;have HB2:=Hi hb2;have HNO:=Hi (show Calls Tryz.prog 125 #[.int .i64 0,.string ⟨#[]⟩,.int .i64 (t.at_:Int),.slice none 0 0] w2 _ from node w2 0 t.at_ [] none 0 0);clear hb1 hb2 hw2 HN;go_wp2_with fail
 rw [HW2.out];refine HNO.out.mono ?_;rintro e w3 ⟨rfl,hb3⟩;obtain ⟨w4,hw4,hb34,hbn⟩:=aS w3 #[.int .i64 0,.string ⟨#[]⟩,.int .u32 0,.int .i64 (t.at_:Int),.slice none 0 0,.slice none 0 0] 26;have hb4:Below w0.heap.size w0 w4:=(HB2.out.trans (hb3.mono HB2.out.size)).trans (hb34.mono (Nat.le_trans HB2.out.size hb3.size));have AO:=Hi (HNU.out w4 hb4);have HW4:=Hi hw4;have HBN:=Hi hbn;have HB4:=Hi hb4;have h03:w0.heap.size<=w3.heap.size:=Nat.le_trans HB2.out.size hb3.size;clear hb3 hb34 hb4 hw4 hbn HNO HNU;go_wp2_with fail
 rw [HW4.out];refine AO.out.mono ?_;rintro e w5 (⟨hnv,rfl,hp5,bn⟩ | ⟨hnv,he,bn⟩)
 ·have hX:Aa w5 w.heap.size 26 _:=(HB.out.below HB4.out HB.out.lt).upd bn V0;have hlb:=HB.out.lt;have hY:=HBN.out.upd bn (show ¬ w3.heap.size=bp from V0);obtain ⟨⟨e0,e1,e2,e3,e4,e5⟩,z0,z1,z2,z3,z4,z5⟩:=Aa.c6 hX;obtain ⟨⟨g0,g1,g2,g3,g4,g5⟩,y0,y1,y2,y3,y4,y5⟩:=Aa.c6 hY;have hxy:w3.heap.size≠w.heap.size:=V0;have HX:=Hi hX;have HY:=Hi hY;have HP5:=Hi hp5;have AR:=Hi bn;have HNV:=Hi hnv;clear hX hY hp5 bn hnv;go_wp2_with fail
  have bX:Upd (fun b=>bp < b) w5 (w5.setCell ⟨w3.heap.size,2,none⟩ (.int .u32 ((ag t.s).1:Int))):=(Upd.refl (fun b=>bp < b) w5).setCell (fun _=>by show bp < w3.heap.size;omega) _;have hu7:UB bp w (w5.setCell ⟨w3.heap.size,2,none⟩ (.int .u32 ((ag t.s).1:Int))):=(((q01 HB0.out).trans (q01 HB4.out)).trans AR.out).setCell (fun h=>absurd h (by show ¬ w3.heap.size < w.heap.size;omega)) _;refine bodyPost_ret (aH rfl rfl (Aa.az (HX.out.far (Ne.symm hxy) _) _ _ _ _ _ _) rfl) rfl ?_;exact q0N (lo:=w.heap.size+1) hlt V0 (q1S _ 0 t.at_ (ag t.s).1 []) (r_num hd HKQ.out HNV.out) (HP5.out.far bX fun _ h=>h) HGR.out V3 hu7
 ·have hbad:=q2P (num:=ag) (r:=r) hd HKQ.out hnv;generalize (if (ag t.s).2 = 4 then 100 else 150)=er at he hbad;subst he;have AR:=Hi bn;have HBAD:=Hi hbad;clear bn hnv hbad;go_wp2_with fail
  exact ⟨rfl,.inr ⟨_,_,rfl,HBAD.out,((q01 HB0.out).trans (q01 HB4.out)).trans AR.out⟩⟩
theorem q6o{N:Nat->Prop}{w:World}{x:Tr}{k a s n A la cA B lb cB}(h:Ak N w x (bG k a s n A la cA B lb cB))(a':Nat):Ak N w (x.put a') (bG k a' s n A la cA B lb cB):=by
 cases x with
 | mk k1 a1 s1 n1 ps l=>
  exact V2E
theorem q7K{n:Nat}(H:ExC n)(w:World)(bp d:Nat)(t:Tk)(r:List Tk)(hn:r.length<=n)(hd:d<=60)(hp:PS w bp (t :: r) d)(hg:Gt (t :: r))(hc:(t.s==[40])=true) :
  Calls Tryz.prog 159 #[.pointer (some ⟨bp,0,none⟩)] w (AB w bp d (t :: r) (Rd ag (.aI 5) d (t :: r))):=by
 have hlt:=hp.lt;have hon:ak [40] t=true:=by rw [q0q hg.hd V2];exact hc
 have hk:2 < t.k:=q0A hg.hd V23;have hgr:=hg.tail V0;obtain ⟨t2,r2,hr2⟩:=hgr.cons;have hne:r≠[]:=Vf;obtain ⟨w0,hw0,hb0,hB⟩:=aS w #[.int .i64 0,.string ⟨#[]⟩,.int .u32 0,.int .i64 0,.slice none 0 0,.slice none 0 0] 26;have hq1:((t.k:Int)==2)=false:=V4;have hq2:((t.k:Int)==1)=false:=V4;have HN:=Hi (next w0 bp d t r (hp.below hb0));have HTK:=Hi fun (w':World) (hb:Below w0.heap.size w0 w')=>take w' bp d t r ((hp.below hb0).below hb) hne
 have HB0:=Hi hb0;have HB:=Hi hB;have HW:=Hi hw0;have HGR:=Hi hgr;have hlb:=hB.lt;clear hb0 hp hw0 hB hgr hr2 hg hk hne;go_enter Tryz.func159,Tryz.ntmps159;go_wp2_with fail
 rw [HW.out];refine HN.out.mono ?_;rintro e w1 ⟨rfl,hb1⟩;obtain ⟨w2,hw2,-,hbt⟩:=aS w1 #[.int .i64 (t.k:Int),.string ⟨t.s.toArray⟩,.int .i64 (t.at_:Int)] 63;have hb2:Below w0.heap.size w0 w2:=Vg;have HT2:=Hi (HTK.out w2 hb2);have h01:w0.heap.size<=w1.heap.size:=hb1.size;have HW2:=Hi hw2;have Ai:=Hi ((q01 (bp:=bp) HB0.out).trans (q01 hb2));have HBT:=Hi hbt;have Ah:=Hi (HB.out.below hb2 HB.out.lt);clear hb1 hb2 hw2 HN hbt HTK;go_wp2_with fail
 rw [HW2.out];refine HT2.out.mono ?_;rintro e w3 ⟨rfl,hp3,hu3⟩;have HE3:=Hi (q3z H w3 bp d r hn hd hp3 HGR.out);have Aw:=Hi (Ai.out.trans hu3);have AV:=Hi (HBT.out.upd hu3 V0);have Aq:=Hi (Ah.out.upd hu3 V0);have h13:=(HBT.out.upd hu3 (show ¬ w1.heap.size=bp from V0)).lt;clear hp3 hu3;go_wp2_with fail
 refine HE3.out.mono ?_;rintro e w4 (⟨k,a,s,m,A,la,cA,B,lb,cB,x,r',rfl,hT,hR,hP,hG,hr,hU⟩ | ⟨a,er,rfl,hR,hU⟩);rotate_left
 ·have HR:=Hi hR;have HU:=Hi (Aw.out.trans hU);clear hR hU;go_wp2_with fail
  exact ⟨rfl,.inr ⟨a,er,rfl,q43 hd hon HR.out,HU.out⟩⟩
 obtain ⟨u,r5,rfl⟩:=hG.cons;obtain ⟨w5,hw5,hb5,hbn⟩:=aS w4 #[.int .i64 (k:Int),.string ⟨s.toArray⟩,.int .u32 (m:Int),.int .i64 (a:Int),.slice A la cA,.slice B lb cB] 26;have h34:=hU.size;have h45:=hbn.lt;have HT5:=Hi ((hT.mono (N':=fun b=>w.heap.size+1<=b/\b≠w4.heap.size) fun b hb hs=>⟨V0,V0⟩).upd (Upd.of_below hb5 fun _=>False) (fun _ _ h=>h));have HR5:=Hi hR;have HG5:=Hi hG;have AR:=Hi ((Aw.out.trans hU).trans (q01 hb5));have HBT5:=Hi ((AV.out.upd hU V0).below hb5 V0);have AX:=Hi ((Aq.out.upd hU V0).below hb5 V0);have HBN:=Hi hbn;have HW5:=Hi hw5;have hp5:=hP.below hb5;have h4b:bp < w4.heap.size:=hP.lt;simp only [List.length_cons] at hr;by_cases hv:(u.s==[41])=true
 ·have hku:u.k≠0:=by
   have:=q0A hG.hd (by rw [eq_of_beq hv];decide);omega
  have hgr5:=hG.tail hku;obtain ⟨t6,r6,hr6⟩:=hgr5.cons;have HM:=Hi (must_yes w5 bp d u r5 [41] hp5 hv (by rw [hr6];simp));have hon2:ak [41] u=true:=by rw [q0q hG.hd V2];exact hv
  have HGR5:=Hi hgr5;clear hv hgr5 hr6 hw5 hb5 hbn hT hR hP hG hU hp5 hku;go_wp2_with fail
  rw [HW5.out];refine HM.out.mono ?_;rintro e w6 ⟨rfl,hp6,bX⟩;have hX:=AX.out.upd bX (show ¬ w.heap.size=bp from V0);have hY:=HBN.out.upd bX (show ¬ w4.heap.size=bp from V0);have hZ:=HBT5.out.upd bX (show ¬ w1.heap.size=bp from V0);obtain ⟨⟨e0,e1,e2,e3,e4,e5⟩,z0,z1,z2,z3,z4,z5⟩:=Aa.c6 hX;obtain ⟨⟨g0,g1,g2,g3,g4,g5⟩,y0,y1,y2,y3,y4,y5⟩:=Aa.c6 hY;obtain ⟨f0,f1,f2,x0,x1,x2⟩:=Aa.c3 hZ;have hxy:w4.heap.size≠w.heap.size:=V0;have HX:=Hi hX;have HP6:=Hi hp6;have HU6:=Hi bX;clear hX hY hZ hp6 bX;go_wp2_with fail
  have hs6:Upd (fun b=>b=w4.heap.size) w6 (w6.setCell ⟨w4.heap.size,3,none⟩ (.int .i64 (t.at_:Int))):=(Upd.refl (fun b=>b=w4.heap.size) w6).setCell (fun _=>rfl) _;refine bodyPost_ret (aH rfl rfl (Aa.az (HX.out.far (Ne.symm hxy) _) _ _ _ _ _ _) rfl) rfl ?_;have hT7:=q6o (HT5.out.upd HU6.out fun b hb e=>V0) t.at_;exact q0N hlt (Nat.lt_succ_self _) ((hT7.upd hs6 fun b hb e=>hb.2 e).mono fun b hb _=>hb.1) (r_par hd hon HR5.out hon2) (HP6.out.far hs6 fun b hb=>V0) HGR5.out V4 ((AR.out.trans HU6.out).setCell (fun h=>absurd h (by show ¬ w4.heap.size < w.heap.size;omega)) _)
 ·have hv':(u.s==[41])=false:=by simpa using hv
  have HM:=Hi (must_no w5 bp d u r5 [41] hp5 hv');have hon2:ak [41] u=false:=by rw [q0q hG.hd V2];exact hv'
  clear hv hv' hw5 hb5 hbn hT hR hP hG hU hp5;go_wp2_with fail
  rw [HW5.out];refine HM.out.mono ?_;rintro e w6 ⟨rfl,bX⟩;have HU6:=Hi bX;clear bX;go_wp2_with fail
  exact ⟨rfl,.inr ⟨_,_,rfl,q42 hd hon HR5.out hon2,AR.out.trans HU6.out⟩⟩
theorem prim_no(w:World)(bp d:Nat)(t:Tk)(r:List Tk)(hd:d<=60)(hp:PS w bp (t :: r) d)(hg:Gt (t :: r))(h1:(ak [126] t || ak [45] t)=false)(h2:t.k≠2)(h3:t.k≠1)(hc:(t.s==[40])=false) :
  Calls Tryz.prog 159 #[.pointer (some ⟨bp,0,none⟩)] w (AB w bp d (t :: r) (Rd ag (.aI 5) d (t :: r))):=by
 have hon:ak [40] t=false:=by rw [q0q hg.hd V2];exact hc
 have hR:=q44 (num:=ag) (r:=r) hd h1 h2 hon h3;obtain ⟨w0,hw0,hb0,-⟩:=aS w #[.int .i64 0,.string ⟨#[]⟩,.int .u32 0,.int .i64 0,.slice none 0 0,.slice none 0 0] 26;have hq1:((t.k:Int)==2)=false:=V4;have hq2:((t.k:Int)==1)=false:=V4;have HN:=Hi (next w0 bp d t r (hp.below hb0));have HH:=Hi fun (w':World) (hb:Below w0.heap.size w0 w')=>here w' bp d t r 100 ((hp.below hb0).below hb)
 have HB0:=Hi hb0;have HW:=Hi hw0;have HR:=Hi hR;clear hb0 hp hw0 hg hR hon h1 h2 h3;go_enter Tryz.func159,Tryz.ntmps159;go_wp2_with fail
 rw [HW.out];refine HN.out.mono ?_;rintro e w1 ⟨rfl,hb1⟩;obtain ⟨w2,hw2⟩:∃ w2,w1.alloc (.cells #[.int .i64 (t.k:Int),.string ⟨t.s.toArray⟩,.int .i64 (t.at_:Int)] 63)=w2:=⟨_,rfl⟩;have hb2:Below w0.heap.size w0 w2:=Vg;have HH2:=Hi (HH.out w2 hb2);have HW2:=Hi hw2;have Ai:=Hi ((q01 (bp:=bp) HB0.out).trans (q01 hb2));clear hb1 hb2 hw2 HN HH;go_wp2_with fail
 rw [HW2.out];refine HH2.out.mono ?_;rintro e w3 ⟨rfl,hb3⟩;have Aw:=Hi (Ai.out.trans (q01 hb3));clear hb3;go_wp2_with fail
 exact ⟨rfl,.inr ⟨_,_,rfl,HR.out,Aw.out⟩⟩
end
section
attribute [local go_sem] bH bI bJ
theorem q6p(w:World)(bp d:Nat)(t u:Tk)(q:List Tk)(hd:d<=60)(hp:PS w bp (t :: u :: q) d)(hg:Gt (t :: u :: q))(hk:t.k = 1)(hu:(u.s==[40])=false) :
  Calls Tryz.prog 159 #[.pointer (some ⟨bp,0,none⟩)] w (AB w bp d (t :: u :: q) (Rd ag (.aI 5) d (t :: u :: q))):=by
 have hon:ak [40] u=false:=by rw [q0q (hg.tail V0).hd V2];exact hu
 have hlt:=hp.lt;have hgr:=hg.tail (show t.k≠0 from V0);obtain ⟨w0,hw0,hb0,hB⟩:=aS w #[.int .i64 0,.string ⟨#[]⟩,.int .u32 0,.int .i64 0,.slice none 0 0,.slice none 0 0] 26;have hq1:((t.k:Int)==2)=false:=by rw [hk];rfl
 have hq2:((t.k:Int)==1)=true:=by rw [hk];rfl
 have HN:=Hi (next w0 bp d t (u :: q) (hp.below hb0));have HTK:=Hi fun (w':World) (hb:Below w0.heap.size w0 w')=>take w' bp d t (u :: q) ((hp.below hb0).below hb) V3
 have HB0:=Hi hb0;have HB:=Hi hB;have HW:=Hi hw0;have HGR:=Hi hgr;have HKQ:=Hi hk;have hlb:=hB.lt;clear hb0 hp hw0 hB hgr hg hk;go_enter Tryz.func159,Tryz.ntmps159;go_wp2_with fail
 rw [HW.out];refine HN.out.mono ?_;rintro e w1 ⟨rfl,hb1⟩;obtain ⟨w2,hw2,-,hbt⟩:=aS w1 #[.int .i64 (t.k:Int),.string ⟨t.s.toArray⟩,.int .i64 (t.at_:Int)] 63;have hb2:Below w0.heap.size w0 w2:=Vg;have HT2:=Hi (HTK.out w2 hb2);have h01:w0.heap.size<=w1.heap.size:=hb1.size;have HW2:=Hi hw2;have Ai:=Hi ((q01 (bp:=bp) HB0.out).trans (q01 hb2));have HBT:=Hi hbt;have Ah:=Hi (HB.out.below hb2 HB.out.lt);clear hb1 hb2 hw2 HN hbt HTK;go_wp2_with fail
 rw [HW2.out];refine HT2.out.mono ?_;rintro e w3 ⟨rfl,hp3,hu3⟩;have HI3:=Hi (is_ w3 bp d u q [40] hp3);have HP3:=Hi hp3;have Aw:=Hi (Ai.out.trans hu3);have AV:=Hi (HBT.out.upd hu3 V0);have Aq:=Hi (Ah.out.upd hu3 V0);have h13:=(HBT.out.upd hu3 (show ¬ w1.heap.size=bp from V0)).lt;clear hp3 hu3;rw [hu] at HI3;go_wp2_with fail
 refine HI3.out.mono ?_;rintro e w4 ⟨rfl,hb4⟩;have h34:w3.heap.size<=w4.heap.size:=hb4.size;have HP4:=Hi (HP3.out.below hb4);have AO:=Hi (Aw.out.trans (q01 hb4));have Bd:=Hi (AV.out.below hb4 h13);have Ba:=Hi (Aq.out.below hb4 V0);clear hb4;have hZ:=Bd.out;obtain ⟨f0,f1,f2,x0,x1,x2⟩:=Aa.c3 hZ;have HNO:=Hi (show Calls Tryz.prog 125 #[.int .i64 1,.string ⟨t.s.toArray⟩,.int .i64 (t.at_:Int),.slice none 0 0] w4 _ from node w4 1 t.at_ t.s none 0 0);clear hZ;go_wp2_with fail
 refine HNO.out.mono ?_;rintro e w5 ⟨rfl,hb5⟩;have hX:=Ba.out.below hb5 Ba.out.lt;obtain ⟨⟨e0,e1,e2,e3,e4,e5⟩,z0,z1,z2,z3,z4,z5⟩:=Aa.c6 hX;have HX:=Hi hX;have HB5:=Hi hb5;clear hX hb5;go_wp2_with fail
 refine bodyPost_ret (aH rfl rfl (Aa.az HX.out _ _ _ _ _ _) rfl) rfl ?_;exact q0N (lo:=w.heap.size+1) hlt V0 (q1S _ 1 t.at_ 0 t.s) (q8t hd HKQ.out hon) (HP4.out.below HB5.out) HGR.out V3 (AO.out.trans (q01 HB5.out))
theorem q6q{n:Nat}(H:ExC n)(w:World)(bp d:Nat)(t u:Tk)(q:List Tk)(hn:q.length<=n)(hd:d<=60)(hp:PS w bp (t :: u :: q) d)(hg:Gt (t :: u :: q))(hk:t.k = 1)(hu:(u.s==[40])=true) :
  Calls Tryz.prog 159 #[.pointer (some ⟨bp,0,none⟩)] w (AB w bp d (t :: u :: q) (Rd ag (.aI 5) d (t :: u :: q))):=by
 have hon:ak [40] u=true:=by rw [q0q (hg.tail V0).hd V2];exact hu
 have hlt:=hp.lt;have hgr:=hg.tail (show t.k≠0 from V0);obtain ⟨w0,hw0,hb0,hB⟩:=aS w #[.int .i64 0,.string ⟨#[]⟩,.int .u32 0,.int .i64 0,.slice none 0 0,.slice none 0 0] 26;have hq1:((t.k:Int)==2)=false:=by rw [hk];rfl
 have hq2:((t.k:Int)==1)=true:=by rw [hk];rfl
 have HN:=Hi (next w0 bp d t (u :: q) (hp.below hb0));have HTK:=Hi fun (w':World) (hb:Below w0.heap.size w0 w')=>take w' bp d t (u :: q) ((hp.below hb0).below hb) V3
 have HB0:=Hi hb0;have HB:=Hi hB;have HW:=Hi hw0;have HGR:=Hi hgr;have HKQ:=Hi hk;have hlb:=hB.lt;clear hb0 hp hw0 hB hgr hg hk;go_enter Tryz.func159,Tryz.ntmps159;go_wp2_with fail
 rw [HW.out];refine HN.out.mono ?_;rintro e w1 ⟨rfl,hb1⟩;obtain ⟨w2,hw2,-,hbt⟩:=aS w1 #[.int .i64 (t.k:Int),.string ⟨t.s.toArray⟩,.int .i64 (t.at_:Int)] 63;have hb2:Below w0.heap.size w0 w2:=Vg;have HT2:=Hi (HTK.out w2 hb2);have h01:w0.heap.size<=w1.heap.size:=hb1.size;have HW2:=Hi hw2;have Ai:=Hi ((q01 (bp:=bp) HB0.out).trans (q01 hb2));have HBT:=Hi hbt;have Ah:=Hi (HB.out.below hb2 HB.out.lt);clear hb1 hb2 hw2 HN hbt HTK;go_wp2_with fail
 rw [HW2.out];refine HT2.out.mono ?_;rintro e w3 ⟨rfl,hp3,hu3⟩;have HI3:=Hi (is_ w3 bp d u q [40] hp3);have HP3:=Hi hp3;have Aw:=Hi (Ai.out.trans hu3);have AV:=Hi (HBT.out.upd hu3 V0);have Aq:=Hi (Ah.out.upd hu3 V0);have h13:=(HBT.out.upd hu3 (show ¬ w1.heap.size=bp from V0)).lt;clear hp3 hu3;rw [hu] at HI3;go_wp2_with fail
 refine HI3.out.mono ?_;rintro e w4 ⟨rfl,hb4⟩;have h34:w3.heap.size<=w4.heap.size:=hb4.size;have HP4:=Hi (HP3.out.below hb4);have AO:=Hi (Aw.out.trans (q01 hb4));have Bd:=Hi (AV.out.below hb4 h13);have Ba:=Hi (Aq.out.below hb4 V0);clear hb4;have aa:K3 w1.heap.size t w4.drew:=K3.of Bd.out.drew;have HAR:=Hi (arguments H w4.drew bp d u q hn hd ⟨HP4.out.ex⟩ HGR.out hu);have HU4d:=Hi (AO.out.drew);have HBTd:=Hi Bd.out.drew;have HXd:=Hi Ba.out.drew;have h0d:w.heap.size < w4.drew.heap.size:=Ba.out.lt;have h1d:w1.heap.size < w4.drew.heap.size:=Bd.out.lt;clear hu;go_upto_region 9 with fail
 refine HT.wp_region (Z:=fun w'=>K3 w1.heap.size t w') (S:=fun _=>True) (st:=[]) V1 ?_;refine HT.bg (i:=0) (v:=?_) rfl V1 V1 V1 V1 (fun _ _ _ h=>h) (Or.inl ⟨V8,?_⟩) aa (fun _=>trivial) ?_;rotate_left
 ·exact V0e
 (try simp only [HT.pS]);refine HT.bg (i:=1) (v:=?_) rfl V1 V1 V1 V1 (fun _ _ _ h=>h) (Or.inl ⟨V8,?_⟩) aa (fun _=>trivial) ?_;rotate_left
 ·exact V0e
 (try simp only [HT.pS]);refine HT.bg (i:=2) (v:=?_) rfl V1 V1 V1 V1 (fun _ _ _ h=>h) (Or.inl ⟨V8,?_⟩) aa (fun _=>trivial) ?_;rotate_left
 ·exact V0e
 (try simp only [HT.pS]);refine HT.bg (i:=3) (v:=?_) rfl V1 V1 V1 V1 (fun _ _ _ h=>h) (Or.inl ⟨V8,?_⟩) aa (fun _=>trivial) ?_;rotate_left
 ·exact V0e
 (try simp only [HT.pS]);refine HT.bg (i:=4) (v:=?_) rfl V1 V1 V1 V1 (fun _ _ _ h=>h) (Or.inl ⟨V8,?_⟩) aa (fun _=>trivial) ?_;rotate_left
 ·exact V0e
 (try simp only [HT.pS]);refine HT.one (i:=5) V1 rfl (fun K hK=>?_);go_simp;refine HAR.out.mono ?_;rintro e w5 (⟨g,c,xs,r',rfl,hA,hxl,hR,hP,hG,hr,hU⟩ | ⟨a,er,rfl,hR,hU⟩);rotate_left
 ·exact ⟨rfl,.inr ⟨a,er,rfl,q6e hd HKQ.out hon (hR _ _),HU4d.out.trans hU⟩⟩
 have hB5:=HBTd.out.upd hU (show ¬ w1.heap.size=bp from V0);have HBT5:=Hi hB5;have AX:=Hi (HXd.out.upd hU V0);have HA5:=Hi hA;have HR5:=Hi (hR t.at_ t.s);have HP5:=Hi hP;have HG5:=Hi hG;have AR:=Hi (HU4d.out.trans hU);have hr1:r'.length < (t :: u :: q).length:=V13;clear hA hR hP hG hU aa hr hB5;dsimp only;refine hK.out _ _ (K3.of HBT5.out) trivial ?_;clear hK K;(try simp only [HT.pS]);have HN5:=Hi (show Calls Tryz.prog 125 #[.int .i64 5,.string ⟨t.s.toArray⟩,.int .i64 (t.at_:Int),.slice (some ⟨g,0,none⟩) xs.length c] w5 _ from node w5 5 t.at_ t.s (some ⟨g,0,none⟩) xs.length c);refine HT.one (i:=6) V1 rfl (fun K hK=>?_);go_simp;refine HN5.out.mono ?_;rintro e w6 ⟨rfl,hb6⟩;have HB6:=Hi hb6;have HX6:=Hi (AX.out.below hb6 AX.out.lt);have HK6:=Hi (HBT5.out.below hb6 HBT5.out.lt);clear hb6;dsimp only;refine hK.out _ _ (K3.of HK6.out) trivial ?_;clear hK K;(try simp only [HT.pS]);obtain ⟨⟨e0,e1,e2,e3,e4,e5⟩,z0,z1,z2,z3,z4,z5⟩:=Aa.c6 HX6.out;have hne26:w1.heap.size≠w.heap.size:=V0;have Ac:=Hi (q0N (R:=Rd ag (.aI 5) d (t :: u :: q)) (l:=t :: u :: q) hlt h0d (Ak.far (HA5.out.node V0 5 t.at_ 0 t.s) (Upd.of_below HB6.out fun _=>False) (fun _ h=>h.elim)) (q6e hd HKQ.out hon HR5.out) (HP5.out.below HB6.out) HG5.out hr1 (AR.out.trans (q01 HB6.out)));refine HT.one (i:=7) V1 rfl (fun K hK=>?_);go_simp;refine hK.out _ _ (K3.of (q0u HK6.out hne26 _ _ _ _ _ _)) trivial ?_;clear hK K;refine HT.done V1 ?_;dsimp only [Exit.then];(try simp only [HT.pS]);go_wp2_with fail
 exact bodyPost_ret (aH rfl rfl (Aa.az HX6.out _ _ _ _ _ _) rfl) rfl Ac.out
theorem primary{n:Nat}(H:ExC n)(w:World)(bp d:Nat)(t:Tk)(r:List Tk)(hn:r.length<=n)(hd:d<=60)(hp:PS w bp (t :: r) d)(hg:Gt (t :: r))(h1:(ak [126] t || ak [45] t)=false) :
  Calls Tryz.prog 159 #[.pointer (some ⟨bp,0,none⟩)] w (AB w bp d (t :: r) (Rd ag (.aI 5) d (t :: r))):=by
 by_cases h2:t.k = 2
 ·exact q7J w bp d t r hd hp hg h2
 by_cases h3:t.k = 1
 ·obtain ⟨u,q,rfl⟩:=q6j hg.et V0;simp only [List.length_cons] at hn;cases hu:(u.s==[40])
  ·exact q6p w bp d t u q hd hp hg h3 hu
  ·exact q6q H w bp d t u q V0 hd hp hg h3 hu
 ·cases hc:(t.s==[40])
  ·exact prim_no w bp d t r hd hp hg h1 h2 h3 hc
  ·exact q7K H w bp d t r hn hd hp hg hc
theorem q7L{n:Nat}(H:ExC n)(w:World)(bp d:Nat)(t:Tk)(r:List Tk)(hn:r.length<=n)(hd:d<=60)(hp:PS w bp (t :: r) d)(hg:Gt (t :: r))(h1:(ak [126] t || ak [45] t)=false) :
  Calls Tryz.prog 127 #[.pointer (some ⟨bp,0,none⟩)] w (AB w bp d (t :: r) (Rd ag (.aI 5) d (t :: r))):=by
 have hlt:=hp.lt;obtain ⟨w0,hw0,hb0,hB⟩:=aS w #[.int .i64 0,.string ⟨#[]⟩,.int .u32 0,.int .i64 0,.slice none 0 0,.slice none 0 0] 26;have hq1:(t.s==[126])=false/\(t.s==[45])=false:=by
  rw [q0q hg.hd V2,q0q hg.hd V2] at h1;simpa using h1
 have hi1:=is_ w0 bp d t r [126] (hp.below hb0);rw [hq1.1] at hi1;have HI1:=Hi hi1;have HI2:=Hi fun (w':World) (hb:Below w0.heap.size w0 w')=>is_ w' bp d t r [45] ((hp.below hb0).below hb)
 have HPR:=Hi fun (w':World) (hb:Below w0.heap.size w0 w')=>primary H w' bp d t r hn hd ((hp.below hb0).below hb) hg h1
 have HB0:=Hi hb0;have HB:=Hi hB;have HW:=Hi hw0;have HQ:=Hi hq1.2;clear hb0 hp hw0 hB hg h1 hi1 hq1;go_enter Tryz.func127,Tryz.ntmps127;go_wp2_with fail
 rw [HW.out];refine HI1.out.mono ?_;rintro e w1 ⟨rfl,hb1⟩;have hi2:=HI2.out w1 hb1;rw [HQ.out] at hi2;have HI3:=Hi hi2;have HB1:=Hi hb1;clear hb1 hi2 HI1 HI2;go_wp2_with fail
 refine HI3.out.mono ?_;rintro e w2 ⟨rfl,hb2⟩;have HB2:=Hi (HB1.out.trans (hb2.mono HB1.out.size));clear hb2 HI3;have Ar:=Hi (HPR.out w2 HB2.out);clear HPR;go_wp2_with fail
 refine Ar.out.mono ?_;rintro e w3 (⟨k,a,s,m,A,la,cA,B,lb,cB,x,r',rfl,hT,hR,hP,hG,hr,hU⟩ | ⟨a,er,rfl,hR,hU⟩)
 ·have h02:=HB2.out.size;have hlb:=HB.out.lt;have hX:=(HB.out.below HB2.out HB.out.lt).upd hU (show ¬ w.heap.size=bp from V0);obtain ⟨⟨e0,e1,e2,e3,e4,e5⟩,z0,z1,z2,z3,z4,z5⟩:=Aa.c6 hX;have HX:=Hi hX;have HT:=Hi hT;have HR:=Hi hR;have HP:=Hi hP;have HG:=Hi hG;have HU:=Hi hU;clear hX hT hR hP hG hU;go_wp2_with fail
  exact bodyPost_ret (aH rfl rfl (Aa.az HX.out _ _ _ _ _ _) rfl) rfl (q0N hlt V0 HT.out HR.out HP.out HG.out hr (((q01 HB0.out).trans (q01 HB2.out)).trans HU.out))
 ·have HR:=Hi hR;have HU:=Hi hU;clear hR hU;go_wp2_with fail
  exact ⟨rfl,.inr ⟨a,er,rfl,HR.out,((q01 HB0.out).trans (q01 HB2.out)).trans HU.out⟩⟩
theorem unary{n:Nat}(H:ExC n):∀ m,m<=n+1->UnC m
 | 0,_=>fun w bp d l hl hd hp hg=>by
  exact V0R
 | m+1,hm=>fun w bp d l hl hd hp hg=>by
  obtain ⟨t,r,rfl⟩:=hg.cons;simp only [List.length_cons] at hl;cases ht:(ak [126] t || ak [45] t)
  ·exact q7L H w bp d t r V0 hd hp hg ht
  ·exact q7I (unary H m V0) w bp d t r V0 hd hp hg ht
end
section
attribute [local go_sem] bH bI bJ
def SgC(n:Nat):Prop:=∀ (w:World) (bp d k:Nat) (l:List Tk),l.length<=n->1<=k->k<=6->d<=60->PS w bp l d->Gt l ->
 Calls Tryz.prog 103 #[.pointer (some ⟨bp,0,none⟩),.int .i64 (k:Int)] w (AB w bp d l (Rd ag (.aI (k - 1)) d l))
theorem tIn_at{N:Nat->Prop}{w:World}{x:Tr}{k a s n A la cA B lb cB}(h:Ak N w x (bG k a s n A la cA B lb cB)):x.place=a:=by
 cases x with
 | mk k1 a1 s1 n1 ps l=>
  unfold Ak at h;obtain ⟨A1,cA1,B1,cB1,h1,h2⟩:=h;unfold bG at h1;simp only [List.cons.injEq,Value.int.injEq,true_and] at h1;exact (Int.ofNat.inj h1.2.2.2.1).symm
theorem nd_two{N:Nat->Prop}{w1:World}{x y:Tr}{cs ds:List Value}(hT:Ak N w1 x cs)(hU:Ak N w1 y ds)(hN:N w1.heap.size)(e:TypeId)(k a:Nat)(s:Bs) :
  Ak N (w1.alloc (.cells (cs ++ ds).toArray e)) (.mk k a s 0 [] [x,y]) (bG k a s 0 (some ⟨w1.heap.size,0,none⟩) 2 2 none 0 0):=by
 have hu:Upd (fun _=>False) w1 (w1.alloc (.cells (cs ++ ds).toArray e)):=(Upd.refl _ w1).alloc _;have h2:AJ N (w1.alloc (.cells (cs ++ ds).toArray e)) [x,y] [cs,ds]:=q1R (q12 (hT.upd hu fun _ _ h=>h)) (q12 (hU.upd hu fun _ _ h=>h));unfold Ak;refine ⟨_,_,none,0,rfl,⟨V3,V3,V2⟩,⟨V3,V3,V2⟩,Af.nil _ _,fun b o e=>VI,[cs,ds],?_,fun b o e _=>?_,h2⟩
 ·have:=q06 w1 e (cs ++ ds);simpa using this
 ·cases e;exact hN
structure SgI(w:World)(bp d k:Nat)(l:List Tk)(g:Nat)(W:World)(x:Tr)(kx ax nx:Nat)(sx:Bs)(A:Option Addr)(la cA:Nat)(B:Option Addr)(lb cB:Nat)(r:List Tk):Prop where
 box:Aa W g 26 #[.int .i64 (kx:Int),.string ⟨sx.toArray⟩,.int .u32 (nx:Int),.int .i64 (ax:Int),.slice A la cA,.slice B lb cB]
 tr:Ak (fun b=>w.heap.size+1<=b/\b≠g) W x (bG kx ax sx nx A la cA B lb cB)
 rd:∀ o,Ch ag (k - 1) d (6 - k) x r o->Rd ag (.aI (k - 1)) d l o
 ps:PS W bp r d
 gt:Gt r
 lt:r.length < l.length
 ub:UB bp w W
 res:Aa W w.heap.size 26 #[.int .i64 0,.string ⟨#[]⟩,.int .u32 0,.int .i64 0,.slice none 0 0,.slice none 0 0]
theorem q6r{n:Nat}(HS:SgC n)(HU:UnC (n+1)):SgC (n+1):=by
 intro w bp d k l hl hk1 hk6 hd hp hg;have hlt:=hp.lt;obtain ⟨w0,hw0,hb0,hB⟩:=aS w #[.int .i64 0,.string ⟨#[]⟩,.int .u32 0,.int .i64 0,.slice none 0 0,.slice none 0 0] 26;have Bc:=Hi (HU w0 bp d l hl hd (hp.below hb0) hg);have HB0:=Hi hb0;have HB:=Hi hB;have HW:=Hi hw0;have hlb:=hB.lt;clear hb0 hp hw0 hB hg;go_enter Tryz.func103,Tryz.ntmps103;go_wp2_with fail
 rw [HW.out];refine Bc.out.mono ?_;rintro e w1 (⟨kx,ax,sx,nx,A,la,cA,B,lb,cB,x,r,rfl,hT,hR,hP,hG,hr,hU⟩ | ⟨a,er,rfl,hR,hU⟩);rotate_left
 ·have HR:=Hi (q6c (n:=k - 1) (m:=6 - k) (show Rd ag (.aI (k - 1+(6 - k))) d l (.bad a er) from V4g) V0);have HU:=Hi ((q01 (bp:=bp) HB0.out).trans hU);clear hR hU;go_wp2_with fail
  exact ⟨rfl,.inr ⟨a,er,rfl,HR.out,HU.out⟩⟩
 have hs1:=hU.size;have h1b:bp < w1.heap.size:=hP.lt;have HJ:Hid (SgI w bp d k l w1.heap.size (w1.alloc (.cells #[.int .i64 (kx:Int),.string ⟨sx.toArray⟩,.int .u32 (nx:Int),.int .i64 (ax:Int),.slice A la cA,.slice B lb cB] 26)) x kx ax nx sx A la cA B lb cB r):=Hi
  ⟨Aa.new _ _ _,(hT.mono (N':=fun b=>w.heap.size+1<=b/\b≠w1.heap.size) fun b hb hs=>⟨V0,V0⟩).upd ((Upd.refl (fun _=>False) w1).alloc _) (fun _ _ h=>h),
   fun o h=>q8s (6 - k) x r V0 V4g h,hP.below ((Below.refl _ _).alloc (Nat.le_refl _) _),hG,hr,((q01 HB0.out).trans hU).alloc _,(HB.out.upd hU V0).alloc _⟩
 clear hT hR hP hG hU;go_wp2_with fail
 go_loopw [6,7,8,9] (fun _ _ _ _ wr=>∃ x kx ax nx sx A la cA B lb cB r,Hid (SgI w bp d k l w1.heap.size wr x kx ax nx sx A la cA B lb cB r)) (fun _ _ _ _ wr=>lenAt wr bp)
 case atStart=>exact ⟨_,_,_,_,_,_,_,_,_,_,_,_,HJ⟩
 case round=>
  clear HJ;obtain ⟨x,kx,ax,nx,sx,A,la,cA,B,lb,cB,r,HH⟩:=hrel;obtain ⟨t,r',rfl⟩:=HH.out.gt.cons;have HN:=Hi (next wr bp d t r' HH.out.ps);have hsg:=sign;obtain ⟨L,hL⟩:∃ L,levT t.s=L:=⟨_,rfl⟩;obtain ⟨K,hK⟩:∃ K,kindT t.s=K:=⟨_,rfl⟩;have HSG:=Hi fun (w':World)=>(show Calls Tryz.prog 128 #[.string ⟨t.s.toArray⟩] w' fun e w''=>e = .returned (.tuple #[.int .i64 (K:Int),.int .i64 (L:Int)])/\w'=w'' by rw [<-hL,<-hK];exact sign w' t.s)
  have hL5:L<=5:=by rw [<-hL];exact levT_le _
  by_cases hlk:L < k
  ·have q1:decide ((L:Int) < (k:Int))=true:=by simp;omega
   have q2:decide (L < k)=true:=V4;have hend:∀ t' r0,t :: r'=t' :: r0->∀ i,k - 1<=i->i < 5->onS i t'=false:=fun t' r0 e i h1 h2=>by
    cases e;rw [q5T HH.out.gt.hd h2,hL];simp;omega
   have Ac:=Hi (HH.out.rd _ (ch_end V0 hend));clear hend;go_wp2_with fail
   refine HN.out.mono ?_;rintro e w2 ⟨rfl,hb2⟩;have HB2:=Hi hb2;have hX:=HH.out.box.below hb2 HH.out.box.lt;have hY:=HH.out.res.below hb2 HH.out.res.lt;clear hb2;go_wp2_with fail
   refine (HSG.out _).mono ?_;rintro e w' ⟨rfl,rfl⟩;obtain ⟨⟨e0,e1,e2,e3,e4,e5⟩,z0,z1,z2,z3,z4,z5⟩:=Aa.c6 hX;obtain ⟨⟨g0,g1,g2,g3,g4,g5⟩,y0,y1,y2,y3,y4,y5⟩:=Aa.c6 hY;have HY:=Hi hY;clear hX hY;go_wp2_with fail
   exact bodyPost_ret (aH rfl rfl (Aa.az HY.out _ _ _ _ _ _) rfl) rfl (q0N hlt (Nat.lt_succ_self _) ((HH.out.tr.mono (N':=fun b=>w.heap.size+1<=b) fun b hb _=>hb.1).upd (Upd.of_below HB2.out fun _=>False) (fun _ _ h=>h)) Ac.out (HH.out.ps.below HB2.out) HH.out.gt HH.out.lt (HH.out.ub.trans (q01 HB2.out)))
  ·have q1:decide ((L:Int) < (k:Int))=false:=by simp;omega
   have q2:decide (L < k)=false:=V4;obtain ⟨q,rfl⟩:∃ q,L=q+1:=⟨L - 1,V0⟩;have hk4:t.k = 4:=q5S HH.out.gt.hd V0;have hgr:=HH.out.gt.tail V0;obtain ⟨t2,r2,hr2⟩:=hgr.cons;have hon:∀ i,i < 5->onS i t=decide (i=q):=fun i hi=>by
    rw [q5T HH.out.gt.hd hi,hL];simp only [decide_eq_decide];omega
   have hKq:K=if q = 3 then 4 else 3:=by
    rw [<-hK];unfold kindT;rw [hL];by_cases h3:q = 3
    ·subst h3;rfl
    ·rw [if_neg V0,if_neg V0,if_neg h3]
   have HTK:=Hi fun (w':World) (hb:Below wr.heap.size wr w')=>take w' bp d t r' (HH.out.ps.below hb) Vf
   have hlr:=HH.out.lt;simp only [List.length_cons] at hlr;have HSR:=Hi fun (w':World) (hp:PS w' bp r' d)=>(show Calls Tryz.prog 103 #[.pointer (some ⟨bp,0,none⟩),.int .i64 ((q:Int)+1+1)] w' (AB w' bp d r' (Rd ag (.aI (q+1)) d r')) from by
    have:=HS w' bp d (q+2) r' V0 V0 V0 hd hp hgr;have e:((q+2:Nat):Int)=(q:Int)+1+1:=V0;rw [e] at this;exact this)
   have HON:=Hi hon;have HKQ:=Hi hKq;have e1:((q+1:Nat):Int)=(q:Int)+1:=V0;rw [e1] at HSG q1;clear hon hKq hr2 hgr hL hK e1;go_wp2_with fail
   refine HN.out.mono ?_;rintro e w2 ⟨rfl,hb2⟩;have HB2:=Hi hb2;have HT2:=Hi (HTK.out w2 hb2);clear hb2 HTK;go_wp2_with fail
   refine (HSG.out _).mono ?_;rintro e w' ⟨rfl,rfl⟩;go_wp2_with fail
   refine HT2.out.mono ?_;rintro e w3 ⟨rfl,hp3,hu3⟩;have HS3:=Hi (HSR.out w3 hp3);have Aw:=Hi ((q01 (bp:=bp) HB2.out).trans hu3);clear hp3 hu3 HSR HT2;go_wp2_with fail
   refine HS3.out.mono ?_;rintro e w4 (⟨ky,ay,sy,ny,A',la',bu,B',lb',bA,y,r4,rfl,hT,hR,hP,hG,hr4,hU⟩ | ⟨a,er,rfl,hR,hU⟩)
   ·have aF:UB bp wr w4:=Aw.out.trans hU;have h1b':¬ w1.heap.size=bp:=V0;have hX:=HH.out.box.upd aF h1b';have hY:=HH.out.res.upd aF (show ¬ w.heap.size=bp from V0);have hglt:=hX.lt;obtain ⟨⟨e0,e1,e2,e3,e4,e5⟩,z0,z1,z2,z3,z4,z5⟩:=Aa.c6 hX;have HX:=Hi hX;have HY:=Hi hY;have HT:=Hi hT;have HR:=Hi hR;have HP:=Hi hP;have HG:=Hi hG;have AO:=Hi aF;clear hX hY hT hR hP hG hU aF;obtain ⟨w5,hw5⟩:∃ w5,w4.alloc (.cells #[.int .i64 (ky:Int),.string ⟨sy.toArray⟩,.int .u32 (ny:Int),.int .i64 (ay:Int),.slice A' la' bu,.slice B' lb' bA] 26)=w5:=⟨_,rfl⟩;obtain ⟨w6,hw6⟩:∃ w6,w5.alloc (.cells #[.int .i64 (kx:Int),.string ⟨sx.toArray⟩,.int .u32 (nx:Int),.int .i64 (ax:Int),.slice A la cA,.slice B lb cB,.int .i64 (ky:Int),.string ⟨sy.toArray⟩,.int .u32 (ny:Int),.int .i64 (ay:Int),.slice A' la' bu,.slice B' lb' bA] 26)=w6:=⟨_,rfl⟩;have hs5:w5.heap.size=w4.heap.size+1:=V18;have hb5:Below w4.heap.size w4 w5:=V4e;have hb6:Below w4.heap.size w4 w6:=by rw [<-hw6];exact hb5.alloc hb5.size _
    have hsr:wr.heap.size<=w3.heap.size:=Aw.out.size;have hxx:Ak (fun b=>w.heap.size+1<=b/\b≠w1.heap.size) w5 x (bG kx ax sx nx A la cA B lb cB):=(HH.out.tr.upd AO.out fun b hb e=>V0).upd (Upd.of_below hb5 fun _=>False) (fun _ _ h=>h);have hgr0:=HH.out.box.lt;have hyy:Ak (fun b=>w.heap.size+1<=b/\b≠w1.heap.size) w5 y (bG ky ay sy ny A' la' bu B' lb' bA):=(HT.out.mono (N':=fun b=>w.heap.size+1<=b/\b≠w1.heap.size) fun b hb _=>⟨V0,V0⟩).upd (Upd.of_below hb5 fun _=>False) (fun _ _ h=>h);have htt:Ak (fun b=>w.heap.size+1<=b/\b≠w1.heap.size) w6 (bin q x t.s [y]) (bG K ax t.s 0 (some ⟨w4.heap.size+1,0,none⟩) 2 2 none 0 0):=by
     have h:=nd_two hxx hyy (show w.heap.size+1<=w5.heap.size/\w5.heap.size≠w1.heap.size from ⟨V0,V0⟩) 26 K ax t.s;unfold bin;rw [<-HKQ.out,tIn_at HH.out.tr,<-hw6,<-hs5];exact h
    have HN6:=Hi (show Calls Tryz.prog 125 #[.int .i64 (K:Int),.string ⟨t.s.toArray⟩,.int .i64 (ax:Int),.slice (some ⟨w4.heap.size+1,0,none⟩) 2 2] w6 _ from node w6 K ax t.s (some ⟨w4.heap.size+1,0,none⟩) 2 2);have HB6:=Hi hb6;have HTT:=Hi htt;rw [<-hw5] at hw6;have HW6:=Hi hw6;clear hw5 hw6 hb5 hb6 hxx hyy htt;go_wp2_with fail
    rw [HW6.out];refine HN6.out.mono ?_;rintro e w7 ⟨rfl,bO⟩;have h46:=HB6.out.size;have hX7:=(HX.out.below HB6.out HX.out.lt).below bO V0;have hY7:=(HY.out.below HB6.out HY.out.lt).below bO (by have:=HY.out.lt;omega);obtain ⟨⟨g0,g1,g2,g3,g4,g5⟩,y0,y1,y2,y3,y4,y5⟩:=Aa.c6 hX7;have HX7:=Hi hX7;have HY7:=Hi hY7;have HB7:=Hi bO;clear hX7 hY7 bO e0 e1 e2 e3 e4 e5 z0 z1 z2 z3 z4 z5;have hnw:w.heap.size≠w1.heap.size:=V0;have HJ8:Hid (SgI w bp d k l w1.heap.size (az w7 w1.heap.size (.int .i64 (K:Int)) (.string ⟨t.s.toArray⟩) (.int .u32 0) (.int .i64 (ax:Int)) (.slice (some ⟨w4.heap.size+1,0,none⟩) 2 2) (.slice none 0 0)) (bin q x t.s [y]) K ax 0 t.s (some ⟨w4.heap.size+1,0,none⟩) 2 2 none 0 0 r4):=Hi
     ⟨Aa.az HX7.out _ _ _ _ _ _,(HTT.out.upd (Upd.of_below HB7.out fun _=>False) (fun _ _ h=>h)).upd (q09 (X:=fun b=>b=w1.heap.size) (Upd.refl _ _) (fun _=>rfl) _ _ _ _ _ _) (fun b hb e=>hb.2 e),
      fun o h=>HH.out.rd o (ch_sign (q:=q) V0 V0 V0 HON.out HR.out h),
      ((HP.out.below HB6.out).below HB7.out).far (q09 (X:=fun b=>b=w1.heap.size) (Upd.refl _ _) (fun _=>rfl) _ _ _ _ _ _) (fun b hb=>V0),
      HG.out,V0,q09 (((HH.out.ub.trans AO.out).trans (q01 HB6.out)).trans (q01 HB7.out)) (fun h=>absurd h V0) _ _ _ _ _ _,q0u HY7.out hnw _ _ _ _ _ _⟩
    go_wp2_with fail
    go_roundw
    case rel=>exact ⟨_,_,_,_,_,_,_,_,_,_,_,_,HJ8⟩
    case measure=>
     have e8:=PS.len HJ8.out.ps;have er:=PS.len HH.out.ps;simp only [List.length_cons] at er;show lenAt (az w7 w1.heap.size (.int .i64 (K:Int)) (.string ⟨t.s.toArray⟩) (.int .u32 0) (.int .i64 (ax:Int)) (.slice (some ⟨w4.heap.size+1,0,none⟩) 2 2) (.slice none 0 0)) bp < lenAt wr bp;omega
   ·have HR:=Hi (HH.out.rd _ (q4E (q:=q) V0 V0 V0 HON.out hR));have HU:=Hi (Aw.out.trans hU);clear hR hU;go_wp2_with fail
    exact ⟨rfl,.inr ⟨a,er,rfl,HR.out,HH.out.ub.trans HU.out⟩⟩
theorem q2S:∀ n,ExC n/\SgC n
 | 0=>⟨fun w bp d l hl _ _ hg=>by
   obtain ⟨t,r,rfl⟩:=hg.cons;simp at hl,fun w bp d k l hl _ _ _ _ hg=>by
   exact V0R⟩
 | n+1=>by
  obtain ⟨he,hs⟩:=q2S n;have hs1:=q6r hs (unary he (n+1) (Nat.le_refl _));exact ⟨fun w bp d l hl hd hp hg=>expr w bp d l hp fun w0 hp0=>hs1 w0 bp d 1 l hl V0 V0 hd hp0 hg,hs1⟩
theorem ex(n:Nat):ExC n:=(q2S n).1
end
end Pa
end Go.Proofs.YtcgibpdjfgjldaaGreatDoor
