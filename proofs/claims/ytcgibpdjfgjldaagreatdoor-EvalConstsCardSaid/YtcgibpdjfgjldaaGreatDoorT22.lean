/- DERIVED. NmUs, NmRu, NmRef, NmQb, NmQe, ShNm, NmWu, NmLa, NmWl. By an AI agent. -/
import Derived.Test.YtcgibpdjfgjldaaGreatDoorT02
import Derived.Test.YtcgibpdjfgjldaaGreatDoorT17
import Derived.Deep.DeepCutAuto
import Derived.StillTactics
import Derived.WalkSpells
import Derived.StillTailTactics
set_option maxRecDepth 100000
set_option maxHeartbeats 8000000
set_option linter.unusedVariables false
set_option linter.unusedSimpArgs false
namespace Go.Proofs.YtcgibpdjfgjldaaGreatDoor
namespace Nm
open Go Go.ChangeShapes Go.WideShapes Go.ChangeAt Go.RowKit Lx Args Pa Sh
structure UsJ(lo bl bs:Nat)(N:Nat->Prop)(w:World)(st:List Bs×Nat):Prop where
 ex:∃ v sb,Blk w bl 24 #[v]/\w.ownsRow lo 9 1 v st.1.length (st.1.map strV)/\Blk w bs 107 #[.map (some sb)]/\MpS w sb st.2 (fun t=>st.1.contains t)/\N bl/\N sb/\(∀ b,v.ownBlock=some b->N b) /\
  v.ownBlock≠some bl/\v.ownBlock≠some bs/\v.ownBlock≠some sb/\sb≠bl/\sb≠bs
 ne:bl≠bs/\lo<=w.heap.size
 few:st.1.length<=st.2
theorem UsJ.far{lo bl bs:Nat}{N X:Nat->Prop}{w w':World}{st:List Bs×Nat}(h:UsJ lo bl bs N w st)(hu:Upd X w w')(hX:∀ b,X b->w.heap.size<=b):UsJ lo bl bs N w' st:=by
 obtain ⟨⟨v,sb,h1,h2,h3,h4,h5⟩,hn,hf⟩:=h;refine ⟨⟨v,sb,h1.upd hu fun h=>by have:=hX _ h;have:=h1.lt;omega,own_updV h2 hu fun b hb h=>by have:=hX _ h;have:=own_atV h2 b hb;omega,h3.upd hu fun h=>by have:=hX _ h;have:=h3.lt;omega,h4.upd hu fun h=>by have:=hX _ h;have:=h4.lt;omega,h5⟩,⟨hn.1,Nat.le_trans hn.2 hu.size⟩,hf⟩
theorem UsJ.mono{lo bl bs:Nat}{N N':Nat->Prop}{w:World}{st:List Bs×Nat}(h:UsJ lo bl bs N w st)(hN:∀ b,N b->b < w.heap.size->N' b):UsJ lo bl bs N' w st:=by
 obtain ⟨⟨v,sb,h1,h2,h3,h4,h5,h6,h7,h8⟩,hn,hf⟩:=h;exact ⟨⟨v,sb,h1,h2,h3,h4,hN _ h5 h1.lt,hN _ h6 h4.lt,fun b hb=>hN _ (h7 b hb) (own_atV h2 b hb).2,h8⟩,hn,hf⟩
theorem in_big(A:Option Addr)(c:Nat)(l:List Bs)(s:ByteArray)(w:World)(hA:Lies w A (strs l))(hl:l.length<=maxLen) :
  Calls Tryz.prog 52 #[.slice A l.length c,.string s] w fun e w'=>e = .returned (.bool (l.contains s.data.toList))/\w=w':=by
 have hlm:l.length<=9223372036854775807:=hl;have hin:=inL l s.data.toList;have HA:=Hi hA;have HIN:=Hi hin;clear hA hin hl;generalize hb:l.contains s.data.toList=b at *;have HB:=Hi hb;clear hb;go_enter Tryz.func52,Tryz.ntmps52;go_wp2_with fail
 go_loop [5] (fun vi=>∃ k:Nat,k<=l.length/\vi = .int .i64 k/\Hid (∀ j,j < k->l[j]?≠some s.data.toList)) (fun vi=>l.length - (intOf vi).toNat)
 case atStart=>exact ⟨0,V0,rfl,Hi fun j hj=>absurd hj V0⟩
 case round=>
  exact V2b
end Nm
namespace Nm
open Lx Pa Sh
structure RS where
 inn:List Bs
 var:List Bs
 loo:List Bs
 fn:List Bs
 many:List Nat
 bad:Option Int
 se:List Bs
 pu:List Bs
 ou:List (Bs×Bool)
def manyR:List Bs->List Nat->Bs->Int
 | f :: fs,m :: ms,s=>if f==s then (m:Int) else manyR fs ms s
 | _,_,_=>-1
def wordR(d:RS)(s:Bs):Bool:=d.inn.contains s || d.var.contains s || d.loo.contains s
def callR(fn:List Bs)(many:List Nat)(s:Bs)(p:Nat):Bool:=decide (manyR fn many s=(p:Int)) && fn.contains s
def orB(o:Option Int)(c:Bool)(a:Int):Option Int:=match o with | some b=>some b | none=>if c then some a else none
def orO(o p:Option Int):Option Int:=match o with | some b=>some b | none=>p
def nmR(d:RS)(s:Bs):Bool:=d.inn.contains s || d.var.contains s || d.loo.contains s || d.fn.contains s
/-! Both alike. -/
structure Rl(c:St)(d:RS):Prop where
 good:d.bad=none
 inn:∀ s,s∈d.inn↔∃ p,c.kn s=some (0,p)
 fn:∀ s,s∈d.fn↔∃ p,c.kn s=some (1,p)
 var:∀ s,s∈d.var↔∃ p,c.kn s=some (2,p)
 loo:∀ s,s∈d.loo↔∃ p,c.kn s=some (3,p)
 many:∀ s p,c.kn s=some (1,p)->manyR d.fn d.many s=(p:Int)
 len:d.many.length=d.fn.length
 sorts:Sorts c.kn
 se:d.se=c.se
 pu:d.pu=c.pu
 ou:d.ou=c.ou
theorem q0F{a b:Bool}(h:a=true↔b=true):a=b:=by cases a <;> cases b <;> simp_all
theorem Rl.named{c:St}{d:RS}(h:Rl c d)(s:Bs):nmR d s=namedB c.kn s:=by
 refine q0F ?_;unfold nmR namedB;simp only [Bool.or_eq_true,List.contains_iff_mem,h.inn,h.var,h.loo,h.fn,Option.isSome_iff_exists];constructor
 ·rintro (((⟨p,h⟩ | ⟨p,h⟩) | ⟨p,h⟩) | ⟨p,h⟩) <;> exact ⟨_,h⟩
 ·rintro ⟨⟨m,p⟩,hk⟩;have hm:=h.sorts s _ hk;simp only at hm;rcases m with _ | _ | _ | _ | m
  ·exact .inl (.inl (.inl ⟨p,hk⟩))
  ·exact .inr ⟨p,hk⟩
  ·exact .inl (.inl (.inr ⟨p,hk⟩))
  ·exact .inl (.inr ⟨p,hk⟩)
  ·omega
theorem Rl.word{c:St}{d:RS}(h:Rl c d)(s:Bs):wordR d s=wordB c.kn s:=by
 refine q0F ?_;unfold wordR wordB;simp only [Bool.or_eq_true,List.contains_iff_mem,h.inn,h.var,h.loo];cases hk:c.kn s with
 | none=>simp
 | some m=>
  obtain ⟨m,p⟩:=m;have hm:=h.sorts s _ hk;simp only at hm;rcases m with _ | _ | _ | _ | m
  ·simp
  ·simp
  ·simp
  ·simp
  ·omega
theorem Rl.func{c:St}{d:RS}(h:Rl c d)(s:Bs):d.fn.contains s=isB c.kn s [1]:=by
 refine q0F ?_;unfold isB;rw [List.contains_iff_mem,h.fn];cases hk:c.kn s with
 | none=>simp
 | some m=>obtain ⟨m,p⟩:=m;simp
theorem Rl.call{c:St}{d:RS}(h:Rl c d)(s:Bs)(p:Nat):callR d.fn d.many s p=callB c.kn s p:=by
 unfold callR callB;cases hk:c.kn s with
 | none=>
  have:d.fn.contains s=false:=by rw [h.func];unfold isB;rw [hk]
  rw [this];simp
 | some m=>
  obtain ⟨m,q⟩:=m;by_cases hm:m = 1
  ·subst hm;have h1:d.fn.contains s=true:=by rw [h.func];unfold isB;rw [hk];simp
   rw [h1,h.many s q hk];refine q0F ?_;simp only [Bool.and_true,decide_eq_true_eq,decide_true,Bool.true_and];omega
  ·have h1:d.fn.contains s=false:=by rw [h.func];unfold isB;rw [hk];simp;omega
   rw [h1];simp [hm]
def Both(r:Rs)(d:RS):Prop:=match r with | .bad a=>d.bad=some a | .ok c=>Rl c d
mutual
def okP:Tz->Prop
 | .mk k _ _ _ _ l=>(k = 8\/k = 9\/k = 10\/k = 12->l.length<=1)/\(k = 11->okPs 2 l)
def okPs:Nat->List Tz->Prop
 | _,[]=>True
 | 0,x :: l=>okP x/\okPs 0 l
 | i+1,_ :: l=>okPs i l
end
mutual
theorem q8z{Q:Bs->Prop}:∀ {x:Tr},gS Q x->okP (embz x)
 | .mk k a s n ps l,h=>by
  unfold gS at h;unfold embz okP;rw [q2o];obtain ⟨_,_,_,⟨h1,h2,_⟩ | ⟨h1,h2,h3⟩⟩:=h
  ·subst h1;exact ⟨fun _=>V0,fun h=>Ve⟩
  ·subst h1;exact ⟨fun h=>Ve,fun _=>q6t h3⟩
theorem q6t{Q:Bs->Prop}:∀ {i:Nat} {l:List Tr},gA Q i l->okPs i (embs l)
 | _,[],_=>by unfold embs okPs;trivial
 | 0,x :: l,h=>by unfold gA at h;unfold embs okPs;exact ⟨q8z h.1,q6t h.2⟩
 | i+1,x :: l,h=>by unfold gA at h;unfold embs okPs;exact q6t h.2
end
theorem okP_gT{Q:Bs->Prop}{x:Tr}(h:gT Q x):okP (embz x):=by
 obtain ⟨k,a,s,n,ps,l⟩:=x;unfold gT at h;rcases h with h | ⟨_,⟨h1,_,h2,_⟩ | ⟨h1,_,_,y,rfl,_⟩ | ⟨h1,_,_,_,y,rfl,_⟩⟩
 ·exact q8z h
 ·unfold embz okP;exact ⟨fun _=>by rw [h2];simp [embs],fun h=>V0⟩
 ·unfold embz okP;exact ⟨fun _=>by simp [embs],fun h=>V0⟩
 ·unfold embz okP;exact ⟨fun _=>by simp [embs],fun h=>V0⟩
theorem q6u{Q:Bs->Prop}:∀ {l:List Tr},(∀ y∈l,gT Q y)->okPs 0 (embs l)
 | [],_=>by unfold embs okPs;trivial
 | x :: l,h=>by unfold embs okPs;exact ⟨okP_gT (h x V3),q6u fun y hy=>h y (by simp [hy])⟩
end Nm
namespace Nm
open Go Go.ChangeShapes Go.WideShapes Go.ChangeAt Go.RowKit Lx Args Pa Sh
def StL(w:World)(g:Nat)(v:Value)(l:List Bs):Prop:=∃ A c,v = .slice A l.length c/\Lies w A (l.map strV)/\l.length<=maxLen/\∀ b o,A=some ⟨b,o,none⟩->l≠[]->b≠g
abbrev intV(n:Nat):Value:=.int .i64 (n:Int)
def InL(w:World)(g:Nat)(v:Value)(l:List Nat):Prop:=∃ A c,v = .slice A l.length c/\Lies w A (l.map intV)/\l.length<=maxLen/\∀ b o,A=some ⟨b,o,none⟩->l≠[]->b≠g
theorem StL.upd{w w':World}{g:Nat}{v:Value}{l:List Bs}(h:StL w g v l)(hu:Upd (fun b=>b=g) w w'):StL w' g v l:=by
 obtain ⟨A,c,h1,h2,h3,h4⟩:=h;refine ⟨A,c,h1,hu.lies h2 fun b o e hl=>h4 b o e fun e2=>?_,h3,h4⟩;rw [e2] at hl;simp at hl
theorem InL.upd{w w':World}{g:Nat}{v:Value}{l:List Nat}(h:InL w g v l)(hu:Upd (fun b=>b=g) w w'):InL w' g v l:=by
 obtain ⟨A,c,h1,h2,h3,h4⟩:=h;refine ⟨A,c,h1,hu.lies h2 fun b o e hl=>h4 b o e fun e2=>?_,h3,h4⟩;rw [e2] at hl;simp at hl
structure EV(w:World)(g:Nat)(v0 v1 v2 v3 v4 v7 v8 v9:Value)(d:RS)(bad:Option Int):Prop where
 blk:∃ ba,Blk w g 70 #[v0,v1,v2,v3,v4,.int .i64 ba,.bool bad.isSome,v7,v8,v9]/\∀ a,bad=some a->ba=a
 inn:StL w g v0 d.inn
 var:StL w g v1 d.var
 loo:StL w g v2 d.loo
 fn:StL w g v3 d.fn
 many:InL w g v4 d.many
 len:d.many.length=d.fn.length
section
variable {w w' : World} {g : Nat} {v0 v1 v2 v3 v4 v7 v8 v9 : Value} {d : RS} {bad : Option Int}
theorem EV.lt(h:EV w g v0 v1 v2 v3 v4 v7 v8 v9 d bad):g < w.heap.size:=by obtain ⟨_,h,_⟩:=h.blk;exact h.lt
theorem EV.below(h:EV w g v0 v1 v2 v3 v4 v7 v8 v9 d bad)(hb:Below w.heap.size w w'):EV w' g v0 v1 v2 v3 v4 v7 v8 v9 d bad:=by
 obtain ⟨⟨ba,h1,h2⟩,h3,h4,h5,h6,h7,h8⟩:=h;have hu:Upd (fun b=>b=g) w w':=Upd.of_below hb _;exact ⟨⟨ba,h1.below hb h1.lt,h2⟩,h3.upd hu,h4.upd hu,h5.upd hu,h6.upd hu,h7.upd hu,h8⟩
theorem EV.c10{x5 x6:Value}(h:Blk w g 70 #[v0,v1,v2,v3,v4,x5,x6,v7,v8,v9]):(w.cell? ⟨g,0,none⟩=some v0/\w.cell? ⟨g,1,none⟩=some v1/\w.cell? ⟨g,2,none⟩=some v2/\w.cell? ⟨g,3,none⟩=some v3/\w.cell? ⟨g,4,none⟩=some v4/\w.cell? ⟨g,5,none⟩=some x5/\w.cell? ⟨g,6,none⟩=some x6/\w.cell? ⟨g,7,none⟩=some v7/\w.cell? ⟨g,8,none⟩=some v8/\w.cell? ⟨g,9,none⟩=some v9) /\
  w.frozen? ⟨g,5,none⟩=false/\w.frozen? ⟨g,6,none⟩=false:=
 ⟨⟨h.cell 0,h.cell 1,h.cell 2,h.cell 3,h.cell 4,h.cell 5,h.cell 6,h.cell 7,h.cell 8,h.cell 9⟩,h.frozen 5,h.frozen 6⟩
end
def ExR(w:World)(g:Nat)(v0 v1 v2 v3 v4 v7 v8 v9:Value)(d:RS)(bad:Option Int)(e:Ending)(w':World):Prop:=e = .returned (.tuple #[])/\EV w' g v0 v1 v2 v3 v4 v7 v8 v9 d bad/\Upd (fun b=>b=g) w w'
theorem bad_(w:World)(g:Nat)(v0 v1 v2 v3 v4 v7 v8 v9:Value)(d:RS)(bad:Option Int)(q:Bool)(k a:Int)(s:Bs)(n:Nat)(A:Option Addr)(la cA:Nat)(B:Option Addr)(lb cB:Nat)(h:EV w g v0 v1 v2 v3 v4 v7 v8 v9 d bad) :
  Calls Tryz.prog 64 #[.pointer (some ⟨g,0,none⟩),.bool q,nzA k a s n A la cA B lb cB] w (ExR w g v0 v1 v2 v3 v4 v7 v8 v9 d (orB bad q a)):=by
 obtain ⟨wn,hwn,hbn,hXn,hsn⟩:=q05 w (nB k a s n A la cA B lb cB);have hg0:=h.lt;have hE:=h.below hbn;have HE:=Hi hE;have HW:=Hi hwn;have HBN:=Hi hbn;have HXN:=Hi hXn;obtain ⟨ba,hblk,hba⟩:=hE.blk;obtain ⟨⟨c0,c1,c2,c3,c4,c5,c6,c7,c8,c9⟩,f5,f6⟩:=EV.c10 hblk;have HBLK:=Hi hblk;have hlt:=hblk.lt;have HEND0:=Hi (show ExR w g v0 v1 v2 v3 v4 v7 v8 v9 d bad (.returned (.tuple #[])) wn from ⟨rfl,hE,Upd.of_below hbn _⟩);cases q with
 | false=>
  have h0:orB bad false a=bad:=by cases bad <;> rfl
  rw [h0];exact V2z
 | true=>
  cases bad with
  | some a1=>
   exact V2z
  | none=>
   have hdr:Below wn.heap.size wn wn.drew:=Below.drew (Below.refl _ _);obtain ⟨wz,hwd⟩:∃ v,wn.drew=v:=⟨_,rfl⟩;rw [hwd] at hdr;have HEz:=Hi (hE.below hdr);have HBz:=Hi (hblk.below hdr hblk.lt);have hZ0:=hXn.below hdr hXn.lt;have hUz:Upd (fun b=>b=g) w wz:=(Upd.of_below (hbn.trans (hdr.mono hbn.size)) _);have hne:¬ w.heap.size=g:=V0;have HUz:=Hi hUz;clear h hE hwn hbn hXn hblk hba hsn hdr hUz;go_enter Tryz.func64,Tryz.ntmps64;go_upto_region 1 with fail
   rw [HW.out];go_wp2_with fail
   refine HT.wp_region (Z:=fun w'=>Blk w' w.heap.size 26 (nB k a s n A la cA B lb cB)) (S:=fun _=>True) (st:=[]) V1 ?_;rw [hwd];clear hwd;refine HT.k 0 rfl Vy hZ0 ?_;refine HT.k 1 rfl Vy hZ0 ?_;refine HT.k 2 rfl Vy hZ0 ?_;refine HT.k 3 rfl Vy hZ0 ?_;refine HT.k 4 rfl Vy hZ0 ?_;refine HT.k 5 rfl Vy hZ0 ?_;clear c0 c1 c2 c3 c4 c5 c6 c7 c8 c9 f5 f6;obtain ⟨⟨c0,c1,c2,c3,c4,c5,c6,c7,c8,c9⟩,f5,f6⟩:=EV.c10 HBz.out;refine HT.one (i:=6) V1 rfl (fun K hK=>?_);go_simp;have hu1:Upd (fun b=>b=g) wz (wz.setCell ⟨g,6,none⟩ (.bool true)):=(Upd.refl (fun b=>b=g) wz).setCell (p:=⟨g,6,none⟩) (fun _=>rfl) _;have hZ1:=hZ0.upd hu1 hne;have hB1:=HBz.out.set 6 (.bool true);have HB1:=Hi (show Blk (wz.setCell ⟨g,6,none⟩ (.bool true)) g 70 #[v0,v1,v2,v3,v4,.int .i64 ba,.bool true,v7,v8,v9] from hB1);clear hB1;(try dsimp only);refine hK.out _ _ hZ1 trivial ?_;clear hK K;(try simp only [HT.pS]);refine HT.k 7 rfl Vy hZ1 ?_;refine HT.k 8 rfl Vy hZ1 ?_;clear c0 c1 c2 c3 c4 c5 c6 c7 c8 c9 f5 f6;obtain ⟨⟨c0,c1,c2,c3,c4,c5,c6,c7,c8,c9⟩,f5,f6⟩:=EV.c10 HB1.out;have hl1:=HB1.out.lt;refine HT.one (i:=9) V1 rfl (fun K hK=>?_);go_simp;have hu2:Upd (fun b=>b=g) wz ((wz.setCell ⟨g,6,none⟩ (.bool true)).setCell ⟨g,5,none⟩ (.int .i64 a)):=hu1.setCell (p:=⟨g,5,none⟩) (fun _=>rfl) _;have hZ2:=hZ0.upd hu2 hne;refine hK.out _ _ hZ2 trivial ?_;clear hK K;(try simp only [HT.pS]);refine HT.done V1 ?_;have hez:=HEz.out;have HEND:=Hi (show ExR w g v0 v1 v2 v3 v4 v7 v8 v9 d (some a) (.returned (.tuple #[])) ((wz.setCell ⟨g,6,none⟩ (.bool true)).setCell ⟨g,5,none⟩ (.int .i64 a)) from
    ⟨rfl,⟨⟨a,HB1.out.set 5 (.int .i64 a),fun _ h=>by cases h;rfl⟩,hez.inn.upd hu2,hez.var.upd hu2,hez.loo.upd hu2,hez.fn.upd hu2,hez.many.upd hu2,hez.len⟩,HUz.out.trans hu2⟩)
   clear hu1 hu2 hZ0 hZ1 hZ2 hez c0 c1 c2 c3 c4 c5 c6 c7 c8 c9 f5 f6;exact Vc
theorem q5m:∀ (fs:List Bs) (ms:List Nat) (s:Bs) (i:Nat) (m:Nat),(∀ j,j < i->fs[j]?≠some s)->fs[i]?=some s->ms[i]?=some m->manyR fs ms s=(m:Int)
 | [],_,s,i,m,_,h,_=>Ve
 | f :: fs,[],s,i,m,_,_,h=>Ve
 | f :: fs,x :: ms,s,0,m,_,h,h'=>by
  have h1:f=s:=Vf;have h2:x=m:=by simpa using h'
  unfold manyR;subst h1;subst h2;simp
 | f :: fs,x :: ms,s,i+1,m,hj,h,h'=>by
  have h0:f≠s:=fun e=>hj 0 V0 (by simp [e])
  unfold manyR;rw [if_neg (by simpa using h0)];exact q5m fs ms s i m (fun j hlt=>by have:=hj (j+1) V0;simpa using this) Vf (by simpa using h')
theorem q5n:∀ (fs:List Bs) (ms:List Nat) (s:Bs),(∀ j,j < fs.length->fs[j]?≠some s)->manyR fs ms s = -1
 | [],ms,s,_=>by unfold manyR;rfl
 | f :: fs,[],s,_=>by unfold manyR;rfl
 | f :: fs,x :: ms,s,hj=>by
  have h0:f≠s:=fun e=>hj 0 V3 (by simp [e])
  unfold manyR;rw [if_neg (by simpa using h0)];exact q5n fs ms s fun j hlt=>by have:=hj (j+1) V4;simpa using this
theorem many_(w:World)(g:Nat)(v0 v1 v2 v3 v4 v7 v8 v9:Value)(d:RS)(bad:Option Int)(s:Bs)(h:EV w g v0 v1 v2 v3 v4 v7 v8 v9 d bad) :
  Calls Tryz.prog 98 #[.pointer (some ⟨g,0,none⟩),.string ⟨s.toArray⟩] w fun e w'=>e = .returned (.int .i64 (manyR d.fn d.many s))/\w=w':=by
 obtain ⟨ba,hblk,hba⟩:=h.blk;obtain ⟨A,c,rfl,hL,hl,_⟩:=h.fn;obtain ⟨A',c',rfl,hL',hl',_⟩:=h.many;have hlen:=h.len;obtain ⟨⟨c0,c1,c2,c3,c4,c5,c6,c7,c8,c9⟩,f5,f6⟩:=EV.c10 hblk;have hlm:d.fn.length<=9223372036854775807:=hl;have HL:=Hi hL;have HL':=Hi hL';obtain ⟨res,hres⟩:∃ res,manyR d.fn d.many s=res:=⟨_,rfl⟩;rw [hres];have HRES:=Hi hres;clear h hblk hba hL hL' hres hl hl';go_enter Tryz.func98,Tryz.ntmps98;go_wp2_with fail
 go_loop [5] (fun vi=>∃ i:Nat,i<=d.fn.length/\vi = .int .i64 (i:Int)/\Hid (∀ j,j < i->d.fn[j]?≠some s)) (fun vi=>d.fn.length - (intOf vi).toNat)
 case atStart=>exact ⟨0,V0,rfl,Hi fun j hj=>absurd hj V0⟩
 case round=>
  obtain ⟨i,hi,rfl,HQ⟩:=hrel;by_cases hlt:i < d.fn.length
  ·obtain ⟨t,ht⟩:∃ t,d.fn[i]?=some t:=⟨_,List.getElem?_eq_getElem hlt⟩;obtain ⟨m,hm⟩:∃ m,d.many[i]?=some m:=⟨_,List.getElem?_eq_getElem V0⟩;have t2:(d.fn.map strV)[i]?=some (.string ⟨t.toArray⟩):=by rw [List.getElem?_map,ht];rfl
   have m2:(d.many.map intV)[i]?=some (.int .i64 (m:Int)):=by rw [List.getElem?_map,hm];rfl
   obtain ⟨b,o,rfl,_,hc⟩:=HL.out.at_ t2;obtain ⟨b',o',rfl,_,hc'⟩:=HL'.out.at_ m2;have e1:=hc _ _ t2;have e2:=hc' _ _ m2;have hlt':i < d.many.length:=V0;by_cases hts:t=s
   ·subst hts;have HR:=Hi (show (m:Int)=res from by rw [<-HRES.out];exact (q5m _ _ _ i m HQ.out ht hm).symm);clear hc hc' t2 m2 ht hm;exact V3p
   ·have hb:(t==s)=false:=by simpa using hts
    have HN:=Hi (show ∀ j,j < i+1->d.fn[j]?≠some s from fun j hj=>by
     by_cases h:j < i
     ·exact HQ.out j h
     ·obtain rfl:j=i:=by omega
      rw [ht];intro e;exact hts (Option.some.inj e))
    clear hc hc' t2 m2 ht hm hts;go_wp2_with fail
    go_round
    case rel=>exact ⟨i+1,V0,V7,HN⟩
    case measure=>simp [intOf];omega
  ·have HR:=Hi (show (-1:Int)=res from by rw [<-HRES.out];exact (q5n _ _ _ fun j hj=>HQ.out j V0).symm);exact V3p
structure EaI(w wx:World)(g:Nat)(v0 v1 v2 v3 v4 v7 v8 v9:Value)(d:RS)(bad:Option Int)(cs:Array Value):Prop where
 ev:EV wx g v0 v1 v2 v3 v4 v7 v8 v9 d bad
 up:Upd (fun b=>b=g) w wx
 bx:Blk wx w.heap.size 26 cs
def EZ(w wx:World)(g:Nat)(v0 v1 v2 v3 v4 v7 v8 v9:Value)(cs:Array Value):Prop:=(∃ x5 x6,Blk wx g 70 #[v0,v1,v2,v3,v4,x5,x6,v7,v8,v9])/\Blk wx w.heap.size 26 cs
theorem EaI.ez{w wx:World}{g:Nat}{v0 v1 v2 v3 v4 v7 v8 v9:Value}{d:RS}{bad:Option Int}{cs:Array Value}(h:EaI w wx g v0 v1 v2 v3 v4 v7 v8 v9 d bad cs):EZ w wx g v0 v1 v2 v3 v4 v7 v8 v9 cs:=by
 obtain ⟨ba,hb,_⟩:=h.ev.blk;exact ⟨⟨_,_,hb⟩,h.bx⟩
theorem q6v(bad:Option Int)(q:Bool)(a:Int)(p:Option Int):orO (orB bad q a) p=orO bad (if q=true then some a else p):=by
 cases bad with
 | some b=>rfl
 | none=>cases q <;> rfl
theorem q6w(a b c:Option Int):orO (orO a b) c=orO a (orO b c):=by cases a <;> rfl
theorem q6x(a:Option Int):orO a none=a:=by cases a <;> rfl
theorem q3r(isN:Bs->Bool)(cal:Bs->Nat->Bool):exBs isN cal []=none:=by unfold exBs;rfl
theorem q49(isN:Bs->Bool)(cal:Bs->Nat->Bool):∀ (l:List Tz) (i:Nat) (x:Tz),l[i]?=some x->exBs isN cal (l.take (i+1))=orO (exBs isN cal (l.take i)) (exB isN cal x)
 | [],i,x,h=>Ve
 | y :: l,0,x,h=>by
  have:y=x:=Vf;subst this;rw [List.take_succ_cons,List.take_zero,List.take_zero,q3r];unfold exBs;rw [q3r];cases exB isN cal y <;> rfl
 | y :: l,i+1,x,h=>by
  rw [List.take_succ_cons,List.take_succ_cons];have:=q49 isN cal l i x Vf;unfold exBs;rw [this];cases exB isN cal y <;> rfl
theorem expr_:∀ (M:Nat) (z:Tz),SizeOf.sizeOf z < M->∀ (w0 w:World) (g:Nat) (v0 v1 v2 v3 v4 v7 v8 v9:Value) (d:RS) (bad:Option Int) (k a:Int) (s:Bs) (n:Nat) (A:Option Addr) (la cA:Nat) (B:Option Addr) (lb cB:Nat),TIz w0 z (nzC k a s n A la cA B lb cB)->Below w0.heap.size w0 w->w0.heap.size<=g->EV w g v0 v1 v2 v3 v4 v7 v8 v9 d bad ->
  Calls Tryz.prog 66 #[.pointer (some ⟨g,0,none⟩),nzA k a s n A la cA B lb cB] w (ExR w g v0 v1 v2 v3 v4 v7 v8 v9 d (orO bad (exB (wordR d) (callR d.fn d.many) z)))
 | 0,z,h=>absurd h (Nat.not_lt_zero _)
 | M+1,.mk k1 a1 s1 n1 ps l,hM=>fun w0 w g v0 v1 v2 v3 v4 v7 v8 v9 d bad k a s n A la cA B lb cB hT hb hg h=>by
  obtain ⟨rfl,rfl,rfl,rfl,rfl,rfl,hl,hp,hB,css,hL,hS⟩:=q0O hT;have hlm:l.length<=9223372036854775807:=hl;obtain ⟨wn,hwn,hbn,hXn,hsn⟩:=q05 w (nB k a s n A l.length cA B ps.length cB);have hgw:=h.lt;have hne:¬ w.heap.size=g:=V0;have h0:EaI w wn g v0 v1 v2 v3 v4 v7 v8 v9 d bad (nB k a s n A l.length cA B ps.length cB):=⟨h.below hbn,Upd.of_below hbn _,hXn⟩;have hinn:=(h.below hbn).inn;have hvar:=(h.below hbn).var;have hloo:=(h.below hbn).loo;have hfn:=(h.below hbn).fn;obtain ⟨A0,c0',rfl,_⟩:=hinn;obtain ⟨A1,c1',rfl,_⟩:=hvar;obtain ⟨A2,c2',rfl,_⟩:=hloo;obtain ⟨A3,c3',rfl,_⟩:=hfn;obtain ⟨u0,hu0⟩:∃ u,u=Value.slice A0 d.inn.length c0':=⟨_,rfl⟩;have hs3:(ByteArray.mk s.toArray).data.toList=s:=V3;have HIN:Hid (∀ (wx:World) (v:Value) (ls:List Bs),StL wx g v ls->Calls Tryz.prog 52 #[v,.string ⟨s.toArray⟩] wx fun e w'=>e = .returned (.bool (ls.contains s))/\wx=w'):=Hi fun wx v ls hv=>by
   obtain ⟨Av,cv,rfl,hLv,hlv,_⟩:=hv;have:=in_big Av cv ls ⟨s.toArray⟩ wx hLv hlv;rw [hs3] at this;exact this
  have HMA:Hid (∀ (wx:World) (b:Option Int),EV wx g (.slice A0 d.inn.length c0') (.slice A1 d.var.length c1') (.slice A2 d.loo.length c2') (.slice A3 d.fn.length c3') v4 v7 v8 v9 d b->Calls Tryz.prog 98 #[.pointer (some ⟨g,0,none⟩),.string ⟨s.toArray⟩] wx fun e w'=>e = .returned (.int .i64 (manyR d.fn d.many s))/\wx=w'):=Hi fun wx b hv=>many_ wx g _ _ _ _ _ _ _ _ d b s hv
  have HBA:Hid (∀ (wx:World) (b:Option Int) (q:Bool),EaI w wx g (.slice A0 d.inn.length c0') (.slice A1 d.var.length c1') (.slice A2 d.loo.length c2') (.slice A3 d.fn.length c3') v4 v7 v8 v9 d b (nB k a s n A l.length cA B ps.length cB)->Calls Tryz.prog 64 #[.pointer (some ⟨g,0,none⟩),.bool q,nzA k a s n A l.length cA B ps.length cB] wx fun e w'=>e = .returned (.tuple #[])/\EaI w w' g (.slice A0 d.inn.length c0') (.slice A1 d.var.length c1') (.slice A2 d.loo.length c2') (.slice A3 d.fn.length c3') v4 v7 v8 v9 d (orB b q a) (nB k a s n A l.length cA B ps.length cB)):=Hi fun wx b q hv=>(bad_ wx g _ _ _ _ _ _ _ _ d b q k a s n A l.length cA B ps.length cB hv.ev).mono fun e w' ⟨h1,h2,h3⟩=>⟨h1,h2,hv.up.trans h3,hv.bx.upd h3 hne⟩
  have hex:exB (wordR d) (callR d.fn d.many) (.mk k a s n ps l)=if (k = 1/\wordR d s=false)\/(k = 5/\callR d.fn d.many s l.length=false) then some a else exBs (wordR d) (callR d.fn d.many) l:=by conv=>lhs;unfold exB
  rw [hex];obtain ⟨b1,hb1⟩:∃ b1,orB bad (decide (k = 1) && !wordR d s) a=b1:=⟨_,rfl⟩;obtain ⟨b2,hb2⟩:∃ b2,orB b1 (decide (k = 5) && !callR d.fn d.many s l.length) a=b2:=⟨_,rfl⟩;have hfin:orO bad (if (k = 1/\wordR d s=false)\/(k = 5/\callR d.fn d.many s l.length=false) then some a else exBs (wordR d) (callR d.fn d.many) l)=orO b2 (exBs (wordR d) (callR d.fn d.many) l):=by
   rw [<-hb2,q6v,<-hb1,q6v]
   congr 1
   by_cases h1:k = 1
   ·have h5:¬ k = 5:=by omega
    simp only [h1,h5,decide_true,decide_false,Bool.true_and,Bool.false_and,false_and,or_false,true_and,Bool.not_eq_true'];simp
   ·by_cases h5:k = 5
    ·simp only [h1,h5,decide_true,decide_false,Bool.true_and,Bool.false_and,false_and,false_or,true_and,Bool.not_eq_true'];simp
    ·simp [h1,h5]
  rw [hfin];have HB1:=Hi hb1;have HB2:=Hi hb2;have H0:=Hi h0;have HW:=Hi hwn;have HL:=Hi hL;have HS:=Hi hS;have HM:=Hi hM;have HBB:=Hi hb;have IH:=Hi (expr_ M);obtain ⟨⟨e0,e1,e2,e3,e4,e5⟩,z0,z1,z2,z3,z4,z5⟩:=Blk.c6 hXn;clear u0 hu0 hT hB hL hS hM hb h h0 hwn hbn hXn hsn hex hfin hb1 hb2 hs3;go_enter Tryz.func66,Tryz.ntmps66;go_upto_region 1 with fail
  rw [HW.out]
  go_upto_if 7 with fail
  go_cut [] (fun wx=>Hid (EaI w wx g (.slice A0 d.inn.length c0') (.slice A1 d.var.length c1') (.slice A2 d.loo.length c2') (.slice A3 d.fn.length c3') v4 v7 v8 v9 d b1 (nB k a s n A l.length cA B ps.length cB)))
  case first=>
   by_cases hk:k = 1
   ·subst hk;have HQ:=Hi (show orB bad (!wordR d s) a=b1 from by rw [<-HB1.out];simp);have hdr:Below wn.heap.size wn wn.drew:=Below.drew (Below.refl _ _);obtain ⟨wz,hwd⟩:∃ v,wn.drew=v:=⟨_,rfl⟩;rw [hwd] at hdr;have h1:=H0.out;have hz:EaI w wz g (.slice A0 d.inn.length c0') (.slice A1 d.var.length c1') (.slice A2 d.loo.length c2') (.slice A3 d.fn.length c3') v4 v7 v8 v9 d bad (nB 1 a s n A l.length cA B ps.length cB):=⟨h1.ev.below hdr,h1.up.trans (Upd.of_below hdr _),h1.bx.below hdr h1.bx.lt⟩;have hZ0:=hz.ez;have HI0:=Hi (HIN.out wz _ _ hz.ev.inn);have HI1:=Hi (HIN.out wz _ _ hz.ev.var);have HI2:=Hi (HIN.out wz _ _ hz.ev.loo);have HBD:=Hi fun q=>HBA.out wz bad q hz
    have hw:wordR d s=(d.inn.contains s || d.var.contains s || d.loo.contains s):=rfl;rw [hw] at HQ;obtain ⟨p0,hp0⟩:∃ p,d.inn.contains s=p:=⟨_,rfl⟩;obtain ⟨p1,hp1⟩:∃ p,d.var.contains s=p:=⟨_,rfl⟩;obtain ⟨p2,hp2⟩:∃ p,d.loo.contains s=p:=⟨_,rfl⟩;rw [hp0,hp1,hp2] at HQ;rw [hp0] at HI0;rw [hp1] at HI1;rw [hp2] at HI2;clear hp0 hp1 hp2 hw h1 hz hdr e0 e1 e2 e3 e4 e5 z0 z1 z2 z3 z4 z5;go_wp2_with fail
    refine HT.wp_region (Z:=fun w'=>EZ w w' g (.slice A0 d.inn.length c0') (.slice A1 d.var.length c1') (.slice A2 d.loo.length c2') (.slice A3 d.fn.length c3') v4 v7 v8 v9 (nB 1 a s n A l.length cA B ps.length cB)) (S:=fun _=>True) (st:=[]) V1 ?_;rw [hwd];clear hwd;refine HT.k 0 rfl V6 hZ0 ?_;refine HT.k 1 rfl V6 hZ0 ?_;refine HT.k 2 rfl V6 hZ0 ?_;refine HT.k 3 rfl V6 hZ0 ?_;refine HT.k 4 rfl V6 hZ0 ?_;refine HT.k 5 rfl V6 hZ0 ?_;refine HT.k 6 rfl V6 hZ0 ?_;refine HT.k 29 rfl V6 hZ0 ?_;refine HT.one (i:=7) V1 rfl (fun K hK=>?_);go_simp;refine HI0.out.mono ?_;rintro e w' ⟨rfl,rfl⟩;(try dsimp only);refine hK.out _ _ hZ0 trivial ?_;clear hK K;(try simp only [HT.pS]);cases p0 with
    | true=>
     refine HT.k 8 rfl V6 hZ0 ?_;refine HT.k 9 rfl V6 hZ0 ?_;refine HT.s 10 hZ0 ?_;refine HT.s 11 hZ0 ?_;refine HT.s 12 hZ0 ?_;refine HT.s 13 hZ0 ?_;refine HT.s 14 hZ0 ?_;refine HT.s 15 hZ0 ?_;refine HT.s 16 hZ0 ?_;refine HT.s 17 hZ0 ?_;exact V2c
    | false=>
     refine HT.k 8 rfl V6 hZ0 ?_;refine HT.k 9 rfl V6 hZ0 ?_;refine HT.k 10 rfl V6 hZ0 ?_;refine HT.k 11 rfl V6 hZ0 ?_;refine HT.k 12 rfl V6 hZ0 ?_;refine HT.k 13 rfl V6 hZ0 ?_;refine HT.k 14 rfl V6 hZ0 ?_;refine HT.k 15 rfl V6 hZ0 ?_;refine HT.one (i:=16) V1 rfl (fun K hK=>?_);go_simp;refine HI1.out.mono ?_;rintro e w' ⟨rfl,rfl⟩;(try dsimp only);refine hK.out _ _ hZ0 trivial ?_;clear hK K;(try simp only [HT.pS]);cases p1 with
     | true=>
      refine HT.k 17 rfl V6 hZ0 ?_;exact V2c
     | false=>
      refine HT.k 17 rfl V6 hZ0 ?_;refine HT.k 18 rfl V6 hZ0 ?_;refine HT.k 19 rfl V6 hZ0 ?_;refine HT.k 20 rfl V6 hZ0 ?_;refine HT.k 21 rfl V6 hZ0 ?_;refine HT.k 22 rfl V6 hZ0 ?_;refine HT.k 23 rfl V6 hZ0 ?_;refine HT.k 24 rfl V6 hZ0 ?_;refine HT.k 25 rfl V6 hZ0 ?_;refine HT.one (i:=26) V1 rfl (fun K hK=>?_);go_simp;refine HI2.out.mono ?_;rintro e w' ⟨rfl,rfl⟩;(try dsimp only);refine hK.out _ _ hZ0 trivial ?_;clear hK K;(try simp only [HT.pS]);refine HT.k 27 rfl V6 hZ0 ?_;refine HT.k 28 rfl V6 hZ0 ?_;refine HT.one (i:=30) V1 rfl (fun K hK=>?_);go_simp;refine (HBD.out (!p2)).mono ?_;exact V19
   ·have hki:(k==1)=false:=by simp;omega
    have hkd:decide (k = 1)=false:=V4;have h1:b1=bad:=by rw [<-HB1.out,hkd];cases bad <;> rfl
    have HQ:=Hi h1;clear h1;go_wp2_with fail
    go_meet
    exact Hi (by rw [HQ.out];exact H0.out)
  case rest=>
   clear e0 e1 e2 e3 e4 e5 z0 z1 z2 z3 z4 z5 H0;have H1:=hcut;obtain ⟨⟨e0,e1,e2,e3,e4,e5⟩,z0,z1,z2,z3,z4,z5⟩:=Blk.c6 H1.out.bx;have hl9:=H1.out.bx.lt
   go_upto_if 41 with fail
   go_cut [] (fun wx=>Hid (EaI w wx g (.slice A0 d.inn.length c0') (.slice A1 d.var.length c1') (.slice A2 d.loo.length c2') (.slice A3 d.fn.length c3') v4 v7 v8 v9 d b2 (nB k a s n A l.length cA B ps.length cB)))
   case first=>
    by_cases hk:k = 5
    ·subst hk;have HQ:=Hi (show orB b1 (!callR d.fn d.many s l.length) a=b2 from by rw [<-HB2.out];simp);have hdr:Below wc.heap.size wc wc.drew:=Below.drew (Below.refl _ _);obtain ⟨wz,hwd⟩:∃ v,wc.drew=v:=⟨_,rfl⟩;rw [hwd] at hdr;have h1:=H1.out;have hz:EaI w wz g (.slice A0 d.inn.length c0') (.slice A1 d.var.length c1') (.slice A2 d.loo.length c2') (.slice A3 d.fn.length c3') v4 v7 v8 v9 d b1 (nB 5 a s n A l.length cA B ps.length cB):=⟨h1.ev.below hdr,h1.up.trans (Upd.of_below hdr _),h1.bx.below hdr h1.bx.lt⟩;have hZ0:=hz.ez;have HI0:=Hi (HIN.out wz _ _ hz.ev.fn);have HMM:=Hi (HMA.out wz _ hz.ev);have HBD:=Hi fun q=>HBA.out wz b1 q hz
     have hw:callR d.fn d.many s l.length=(decide (manyR d.fn d.many s=(l.length:Int)) && d.fn.contains s):=rfl;rw [hw] at HQ;obtain ⟨p0,hp0⟩:∃ p,d.fn.contains s=p:=⟨_,rfl⟩;obtain ⟨my,hmy⟩:∃ p,manyR d.fn d.many s=p:=⟨_,rfl⟩;rw [hp0,hmy] at HQ;rw [hp0] at HI0;rw [hmy] at HMM;clear hp0 hmy hw h1 hz hdr e0 e1 e2 e3 e4 e5 z0 z1 z2 z3 z4 z5;go_wp2_with fail
     refine HT.wp_region (Z:=fun w'=>EZ w w' g (.slice A0 d.inn.length c0') (.slice A1 d.var.length c1') (.slice A2 d.loo.length c2') (.slice A3 d.fn.length c3') v4 v7 v8 v9 (nB 5 a s n A l.length cA B ps.length cB)) (S:=fun _=>True) (st:=[]) V1 ?_;rw [hwd];clear hwd;refine HT.k 0 rfl V6 hZ0 ?_;refine HT.k 1 rfl V6 hZ0 ?_;refine HT.k 2 rfl V6 hZ0 ?_;refine HT.k 3 rfl V6 hZ0 ?_;refine HT.k 5 rfl V6 hZ0 ?_;refine HT.k 6 rfl V6 hZ0 ?_;refine HT.k 7 rfl V6 hZ0 ?_;refine HT.k 19 rfl V6 hZ0 ?_;refine HT.one (i:=4) V1 rfl (fun K hK=>?_);go_simp;refine HMM.out.mono ?_;rintro e w' ⟨rfl,rfl⟩;(try dsimp only);refine hK.out _ _ hZ0 trivial ?_;clear hK K;(try simp only [HT.pS]);by_cases hmm:my=(l.length:Int)
     ·have hmb:(my==(l.length:Int))=true:=by simpa using hmm
      have hmd:decide (my=(l.length:Int))=true:=by simpa using hmm
      rw [hmd] at HQ;clear hmd;refine HT.k 8 rfl V6 hZ0 ?_;refine HT.k 9 rfl V6 hZ0 ?_;refine HT.k 10 rfl V6 hZ0 ?_;refine HT.k 11 rfl V6 hZ0 ?_;refine HT.k 12 rfl V6 hZ0 ?_;refine HT.k 13 rfl V6 hZ0 ?_;refine HT.k 14 rfl V6 hZ0 ?_;refine HT.k 15 rfl V6 hZ0 ?_;refine HT.one (i:=16) V1 rfl (fun K hK=>?_);go_simp;refine HI0.out.mono ?_;rintro e w' ⟨rfl,rfl⟩;(try dsimp only);refine hK.out _ _ hZ0 trivial ?_;clear hK K;(try simp only [HT.pS]);refine HT.k 17 rfl V6 hZ0 ?_;refine HT.k 18 rfl V6 hZ0 ?_;refine HT.one (i:=20) V1 rfl (fun K hK=>?_);go_simp;refine (HBD.out (!p0)).mono ?_;exact V19
     ·have hmb:(my==(l.length:Int))=false:=by simpa using hmm
      have hmd:decide (my=(l.length:Int))=false:=by simpa using hmm
      have hmn:(my != (l.length:Int))=true:=by simpa using hmm
      rw [hmd] at HQ;refine HT.k 8 rfl V6 hZ0 ?_;refine HT.k 9 rfl V6 hZ0 ?_;refine HT.s 10 hZ0 ?_;refine HT.s 11 hZ0 ?_;refine HT.s 12 hZ0 ?_;refine HT.s 13 hZ0 ?_;refine HT.s 14 hZ0 ?_;refine HT.s 15 hZ0 ?_;refine HT.s 16 hZ0 ?_;refine HT.s 17 hZ0 ?_;refine HT.k 18 rfl V6 hZ0 ?_;refine HT.one (i:=20) V1 rfl (fun K hK=>?_);go_simp;refine (HBD.out true).mono ?_;exact V19
    ·have hki:(k==5)=false:=by simp;omega
     have hkd:decide (k = 5)=false:=V4;have h1:b2=b1:=by rw [<-HB2.out,hkd];cases b1 <;> rfl
     have HQ:=Hi h1;clear h1;go_wp2_with fail
     go_meet
     exact Hi (by rw [HQ.out];exact H1.out)
   case rest=>
    clear e0 e1 e2 e3 e4 e5 z0 z1 z2 z3 z4 z5 H1 hl9;have H2:=Hi (show EaI w _ g (.slice A0 d.inn.length c0') (.slice A1 d.var.length c1') (.slice A2 d.loo.length c2') (.slice A3 d.fn.length c3') v4 v7 v8 v9 d (orO b2 (exBs (wordR d) (callR d.fn d.many) (l.take 0))) (nB k a s n A l.length cA B ps.length cB) from by rw [List.take_zero,q3r,q6x];exact hcut.out);go_wp2_with fail
    go_loopw [4] (fun vi wr=>∃ i:Nat,i<=l.length/\vi = .int .i64 (i:Int)/\Hid (EaI w wr g (.slice A0 d.inn.length c0') (.slice A1 d.var.length c1') (.slice A2 d.loo.length c2') (.slice A3 d.fn.length c3') v4 v7 v8 v9 d (orO b2 (exBs (wordR d) (callR d.fn d.many) (l.take i))) (nB k a s n A l.length cA B ps.length cB))) (fun vi _=>l.length - (intOf vi).toNat)
    case atStart=>exact ⟨0,V0,rfl,H2⟩
    case round=>
     obtain ⟨i,hi,rfl,Hr⟩:=hrel;obtain ⟨⟨e0,e1,e2,e3,e4,e5⟩,z0,z1,z2,z3,z4,z5⟩:=Blk.c6 Hr.out.bx;by_cases hlt:i < l.length
     ·obtain ⟨x,hx⟩:∃ x,l[i]?=some x:=⟨_,List.getElem?_eq_getElem hlt⟩;have HBr:=Hi (HBB.out.trans (Hr.out.up.below HBB.out.size fun b hb=>V0));obtain ⟨b2',o2,k3,a3,s3,n3,A3',la3,cA3,B3,lb3,cB3,rfl,hTx,hb3,g0,g1,g2,g3,g4,g5⟩:=q2C HBr.out HL.out HS.out hx;have HC:=Hi (IH.out x (Nat.lt_of_lt_of_le (q0m hx) (Nat.le_of_lt_succ HM.out)) w0 wr g _ _ _ _ _ _ _ _ d _ k3 a3 s3 n3 A3' la3 cA3 B3 lb3 cB3 hTx HBr.out hg Hr.out.ev);rw [q6w,<-q49 _ _ l i x hx] at HC;clear hTx hx;go_wp2_with fail
      refine HC.out.mono ?_;rintro e w2 ⟨rfl,hE2,hu2⟩;have H3:=Hi (show EaI w w2 g (.slice A0 d.inn.length c0') (.slice A1 d.var.length c1') (.slice A2 d.loo.length c2') (.slice A3 d.fn.length c3') v4 v7 v8 v9 d (orO b2 (exBs (wordR d) (callR d.fn d.many) (l.take (i+1)))) (nB k a s n (some ⟨b2',o2,none⟩) l.length cA B ps.length cB) from ⟨hE2,Hr.out.up.trans hu2,Hr.out.bx.upd hu2 hne⟩);clear hE2 hu2 HC e0 e1 e2 e3 e4 e5 z0 z1 z2 z3 z4 z5 g0 g1 g2 g3 g4 g5;go_wp2_with fail
      go_roundw
      case rel=>exact ⟨i+1,V0,V7,H3⟩
      case measure=>simp [intOf];omega
     ·have HEND:=Hi (show ExR w g (.slice A0 d.inn.length c0') (.slice A1 d.var.length c1') (.slice A2 d.loo.length c2') (.slice A3 d.fn.length c3') v4 v7 v8 v9 d (orO b2 (exBs (wordR d) (callR d.fn d.many) l)) (.returned (.tuple #[])) wr from ⟨rfl,by have h:=Hr.out.ev;rw [List.take_of_length_le V0] at h;exact h,Hr.out.up⟩);exact Vc
end Nm
namespace Sh
open Go Go.ChangeShapes Go.WideShapes Go.ChangeAt Go.RowKit Lx Args Pa

end Sh
namespace Nm
open Go Go.ChangeShapes Go.WideShapes Go.ChangeAt Go.RowKit Lx Args Pa Sh

end Nm
end Go.Proofs.YtcgibpdjfgjldaaGreatDoor
namespace Go.Proofs.YtcgibpdjfgjldaaGreatDoor.HT
open Go
variable {P : Program} {ops : Array Oper} {Q : Exit -> Act -> World -> Prop} {md : Region.Mode} {Z S : World -> Prop} {st : List Nat}
theorem two{i j:Nat}{oi oj:Oper}{f:Nat}{listed:Array Bool}{a:Act}{w:World}(hr:Region.ready md ops listed=[i,j])(hi:ops[i]?=some oi)(hj:ops[j]?=some oj)
  (h1:∀ K:Act->World->Prop,Shut (∀ a' w',Z w'->S w'->anyT P md ops Q Z S st f (listed.setIfInBounds i true) a' w'->K a' w')->if Region.wanted oi (yielded ops a.tmps)=true then Oper.wp P oi a w K Q else K (a.put oi.dst undef) w)
  (h2:∀ K:Act->World->Prop,Shut (∀ a' w',Z w'->S w'->anyT P md ops Q Z S st f (listed.setIfInBounds j true) a' w'->K a' w')->if Region.wanted oj (yielded ops a.tmps)=true then Oper.wp P oj a w K Q else K (a.put oj.dst undef) w):anyT P md ops Q Z S st (f+1) listed a w:=
 ⟨fun h0=>V0R,fun k hk=>by
  exact V2x⟩
end Go.Proofs.YtcgibpdjfgjldaaGreatDoor.HT
namespace Go.Proofs.YtcgibpdjfgjldaaGreatDoor.Nm
open Go Go.ChangeShapes Go.WideShapes Go.ChangeAt Go.RowKit Lx Args Pa Sh
theorem split_at{l:List Tz}{k:Nat}{x:Tz}(h:l[k]?=some x):l=l.take k ++ x :: l.drop (k+1):=by
 rw [<-drop_at h,List.take_append_drop]
theorem q6y{w:World}{lo:Nat}{e:TypeId}{size n:Nat}{v:Value}{xs:List Value}(h:w.ownsRow lo e size v n xs):n<=maxLen:=by
 rcases h.2 with ⟨_,h0⟩ | ⟨g,cap,cur,_,_,_,h1,h2,_⟩
 ·rw [h0];exact Nat.zero_le _
 ·exact Nat.le_trans h1 h2
end Go.Proofs.YtcgibpdjfgjldaaGreatDoor.Nm
