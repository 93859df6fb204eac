/- DERIVED. NmRy. By an AI agent. -/
import Derived.Test.YtcgibpdjfgjldaaGreatDoorR10
set_option linter.unusedVariables false
set_option linter.unusedSimpArgs false
open Go Go.ChangeShapes Go.WideShapes Go.ChangeAt Go.RowKit
namespace Go.Proofs.YtcgibpdjfgjldaaGreatDoor
namespace Nm
open Lx Args Pa Sh
theorem q2J:∀ (l:List Tz) (i:Nat) (x:Tz) (d:RS),l[i]?=some x->bW 0 (l.take (i+1)) d=rsB x (bW 0 (l.take i) d)
 | [],i,x,d,h=>Vc
 | y :: l,0,x,d,h=>by
  have:y=x:=Va;subst this;rw [List.take_succ_cons,List.take_zero,List.take_zero,q1w,q1E,q1E]
 | y :: l,i+1,x,d,h=>by
  rw [List.take_succ_cons,List.take_succ_cons,q1w,q1w];exact q2J l i x (rsB y d) Va
theorem q1Z:∀ (l:List Tz) (i:Nat) (x:Tz),l[i]?=some x->au (l.take (i+1))=au (l.take i)+nbz x
 | [],i,x,h=>Vc
 | y :: l,0,x,h=>by
  have:y=x:=Va;subst this;rw [List.take_succ_cons,List.take_zero,List.take_zero];show nbz y+au []=au []+nbz y;omega
 | y :: l,i+1,x,h=>by
  rw [List.take_succ_cons,List.take_succ_cons];have:=q1Z l i x Va;show nbz y+au (l.take (i+1))=nbz y+au (l.take i)+nbz x;omega
theorem q2K:∀ (l:List Tz) (i:Nat),au (l.take i)<=au l
 | [],i=>V3
 | y :: l,0=>Nat.zero_le _
 | y :: l,i+1=>by
  rw [List.take_succ_cons];have:=q2K l i;show nbz y+au (l.take i)<=nbz y+au l;omega
theorem q6a:∀ (l:List Tz) (i:Nat) (x:Tz),l[i]?=some x->au (l.take i)+nbz x<=au l:=fun l i x h=>by
 rw [<-q1Z l i x h];exact q2K l _
structure Cp3(lo B0:Nat)(d:RS)(u1 u2 u0:Value)(wx:World):Prop where
 o1:wx.ownsRow lo 9 1 u1 d.var.length (d.var.map ai)
 o2:wx.ownsRow lo 9 1 u2 d.aN.length (d.aN.map ai)
 o0:wx.ownsRow lo 9 1 u0 d.aT.length (d.aT.map ai)
 ge:∀ b,u1.ownBlock=some b\/u2.ownBlock=some b\/u0.ownBlock=some b->B0<=b
 d12:∀ b,u1.ownBlock=some b->u2.ownBlock≠some b
 d10:∀ b,u1.ownBlock=some b->u0.ownBlock≠some b
 d20:∀ b,u2.ownBlock=some b->u0.ownBlock≠some b
theorem Cp3.upd{lo B0:Nat}{d:RS}{u1 u2 u0:Value}{wx wy:World}{X:Nat->Prop}(h:Cp3 lo B0 d u1 u2 u0 wx)(hu:Upd X wx wy)(hX:∀ b,B0<=b->b < wx.heap.size->¬ X b):Cp3 lo B0 d u1 u2 u0 wy:=
 ⟨ae h.o1 hu fun b hb=>hX b (h.ge b (.inl hb)) (av h.o1 b hb).2,ae h.o2 hu fun b hb=>hX b (h.ge b (.inr (.inl hb))) (av h.o2 b hb).2,ae h.o0 hu fun b hb=>hX b (h.ge b (.inr (.inr hb))) (av h.o0 b hb).2,h.ge,h.d12,h.d10,h.d20⟩
theorem Cp3.lt{lo B0:Nat}{d:RS}{u1 u2 u0:Value}{wx:World}(h:Cp3 lo B0 d u1 u2 u0 wx)(b:Nat)(hb:u1.ownBlock=some b\/u2.ownBlock=some b\/u0.ownBlock=some b):b < wx.heap.size:=by
 rcases hb with hb | hb | hb
 ·exact (av h.o1 b hb).2
 ·exact (av h.o2 b hb).2
 ·exact (av h.o0 b hb).2
structure RvJ(X:Nat->Prop)(lo g:Nat)(w4:World)(v:Nat->Value)(d:RS)(m:Nat)(wr:World):Prop where
 rv:RV (New X w4) lo wr g v d
 le:∀ i,i < 8->rvN d i<=m
 up:Upd X w4 wr
section
variable {X : Nat -> Prop} {lo g : Nat} {w w4 wr wx : World} {v : Nat -> Value} {d d' dE : RS} {m m' : Nat}
theorem RvJ.start{N:Nat->Prop}{cs:Array Value}(h:RvI N lo w g v cs d m w4):RvJ (RvB g v) lo g w4 v d m w4:=
 ⟨h.rv.own_.mono fun b hb _=>.inl hb,h.le,Upd.refl _ _⟩
theorem RvJ.step(h:RvJ X lo g w4 v d m wr){e:Ending}(hr:RStP (New X w4) lo wr g d' m' e wx):e = .returned (.tuple #[])/\∃ v',RvJ X lo g w4 v' d' m' wx:=by
 obtain ⟨he,⟨v',hv⟩,hle,hu⟩:=hr;have hs:=h.up.size;exact ⟨he,v',hv.mono (fun b hb _=>hb.elim (fun h=>h) fun hb=>.inr V0),hle,dm h.up hu fun b hb hlt=>hb.resolve_right V0⟩
theorem RvJ.back(h:RvJ X lo g w4 v dE m wr){B0:Nat}{u1 u2 u0:Value}(hc:Cp3 lo B0 d u1 u2 u0 w4)(hX:∀ b,X b->b < B0\/∀ c,u1.ownBlock=some c\/u2.ownBlock=some c\/u0.ownBlock=some c->c≠b)(hgB:g < B0)(hlen:dE.many.length=dE.fn.length) :
  RV (fun b=>New X w4 b\/B0<=b) lo (((wr.setCell ⟨g,1,none⟩ u1).setCell ⟨g,2,none⟩ u2).setCell ⟨g,0,none⟩ u0) g (cK (cK (cK v 1 u1) 2 u2) 0 u0) { dE with var:=d.var,aN:=d.aN,aT:=d.aT }:=by
 have hnX:∀ b,(u1.ownBlock=some b\/u2.ownBlock=some b\/u0.ownBlock=some b)->¬ X b:=fun b hb hx=>by
  rcases hX b hx with h1 | h1
  ·have:=hc.ge b hb;omega
  ·exact h1 b hb rfl
 have hr:Cp3 lo B0 d u1 u2 u0 wr:=
  ⟨ae hc.o1 h.up fun b hb=>hnX b (.inl hb),ae hc.o2 h.up fun b hb=>hnX b (.inr (.inl hb)),ae hc.o0 h.up fun b hb=>hnX b (.inr (.inr hb)),hc.ge,hc.d12,hc.d10,hc.d20⟩
 have hne:∀ b,(u1.ownBlock=some b\/u2.ownBlock=some b\/u0.ownBlock=some b)->b≠g:=fun b hb e=>by have:=hc.ge b hb;omega
 have hfar:∀ j,j < 8->∀ b,(u1.ownBlock=some b\/u2.ownBlock=some b\/u0.ownBlock=some b)->(v j).ownBlock≠some b:=fun j hj b hb e=>by
  rcases h.rv.bY.2 j hj b e with h1 | h1
  ·exact hnX b hb h1
  ·have:=hc.lt b hb;omega
 have s1:Upd (fun b=>b=g) wr (wr.setCell ⟨g,1,none⟩ u1):=(Upd.refl (fun b=>b=g) wr).setCell (p:=⟨g,1,none⟩) (fun _=>rfl) u1;have r1:=h.rv.put (d':={ dE with var:=d.var }) (N':=fun b=>New X w4 b\/B0<=b) 1 V2 hr.o1 (fun e=>hne g (.inl e) rfl) (fun j hj _ b hb=>hfar j hj b (.inl hb))
  (fun j hj hne1=>by
   have h8:j = 0\/j = 2\/j = 3\/j = 4\/j = 5\/j = 6\/j = 7:=V0;rcases h8 with rfl | rfl | rfl | rfl | rfl | rfl | rfl <;> exact ⟨rfl,rfl⟩) rfl hlen (fun b hb=>.inl hb) (fun b hb=>.inr (hc.ge b (.inl hb)))
 have hr1:Cp3 lo B0 d u1 u2 u0 (wr.setCell ⟨g,1,none⟩ u1):=hr.upd s1 fun b hb _ e=>V0
 have s2:Upd (fun b=>b=g) (wr.setCell ⟨g,1,none⟩ u1) ((wr.setCell ⟨g,1,none⟩ u1).setCell ⟨g,2,none⟩ u2):=(Upd.refl (fun b=>b=g) _).setCell (p:=⟨g,2,none⟩) (fun _=>rfl) u2;have r2:=r1.put (d':={ dE with var:=d.var,aN:=d.aN }) (N':=fun b=>New X w4 b\/B0<=b) 2 V2 hr1.o2 (fun e=>hne g (.inr (.inl e)) rfl) (fun j hj _ b hb e=>by
   unfold cK at e;by_cases hj1:j = 1
   ·rw [if_pos hj1] at e;exact hr.d12 b e hb
   ·rw [if_neg hj1] at e;exact hfar j hj b (.inr (.inl hb)) e)
  (fun j hj hne1=>by
   have h8:j = 0\/j = 1\/j = 3\/j = 4\/j = 5\/j = 6\/j = 7:=V0;rcases h8 with rfl | rfl | rfl | rfl | rfl | rfl | rfl <;> exact ⟨rfl,rfl⟩) rfl hlen (fun b hb=>hb) (fun b hb=>.inr (hc.ge b (.inr (.inl hb))))
 have hr2:Cp3 lo B0 d u1 u2 u0 _:=hr1.upd s2 fun b hb _ e=>V0
 exact r2.put (d':={ dE with var:=d.var,aN:=d.aN,aT:=d.aT }) (N':=fun b=>New X w4 b\/B0<=b) 0 V2 hr2.o0 (fun e=>hne g (.inr (.inr e)) rfl) (fun j hj _ b hb e=>by
   unfold cK at e;by_cases hj2:j = 2
   ·rw [if_pos hj2] at e;exact hr.d20 b e hb
   ·rw [if_neg hj2] at e;by_cases hj1:j = 1
    ·rw [if_pos hj1] at e;exact hr.d10 b e hb
    ·rw [if_neg hj1] at e;exact hfar j hj b (.inr (.inr hb)) e)
  (fun j hj hne1=>by
   have h8:j = 1\/j = 2\/j = 3\/j = 4\/j = 5\/j = 6\/j = 7:=V0;rcases h8 with rfl | rfl | rfl | rfl | rfl | rfl | rfl <;> exact ⟨rfl,rfl⟩) rfl hlen (fun b hb=>hb) (fun b hb=>.inr (hc.ge b (.inr (.inr hb))))
theorem RvJ.end_{N:Nat->Prop}{cs:Array Value}{v4:Nat->Value}{d4:RS}{m4:Nat}(hI:RvI N lo w g v4 cs d4 m4 w4)(h:RvJ (RvB g v4) lo g w4 v dE m wr){B0:Nat}{u1 u2 u0:Value}(hc:Cp3 lo B0 d u1 u2 u0 w4)(hX:∀ b,RvB g v4 b->b < B0\/∀ c,u1.ownBlock=some c\/u2.ownBlock=some c\/u0.ownBlock=some c->c≠b)(hgB:g < B0)(hB:w.heap.size<=B0)(hgw:g < w.heap.size)
  (hle:∀ i,i < 8->rvN d i<=m) :
  RStP N lo w g { dE with var:=d.var,aN:=d.aN,aT:=d.aT } m (.returned (.tuple #[])) (((wr.setCell ⟨g,1,none⟩ u1).setCell ⟨g,2,none⟩ u2).setCell ⟨g,0,none⟩ u0):=by
 have hb:=h.back hc hX hgB h.rv.len;have hin:∀ b,RvB g v4 b->(N b/\b < w.heap.size)\/w.heap.size < b:=fun b hb=>hI.rv.sub hb
 have hw4:=hI.up.size;have hNg:N g:=by
  rcases hI.rv.bY.1 with h | h
  ·exact h.1
  ·omega
 refine ⟨rfl,⟨_,hb.mono fun b hb _=>?_⟩,fun i hi=>?_,?_⟩
 ·rcases hb with (hb | hb) | hb
  ·exact (hin b hb).imp (fun h=>h.1) fun h=>Nat.le_of_lt h
  ·exact .inr V0
  ·exact .inr V0
 ·have h8:i = 0\/i = 1\/i = 2\/i = 3\/i = 4\/i = 5\/i = 6\/i = 7:=by omega
  rcases h8 with rfl | rfl | rfl | rfl | rfl | rfl | rfl | rfl
  ·exact hle 0 V2
  ·exact hle 1 V2
  ·exact hle 2 V2
  ·exact h.le 3 V2
  ·exact h.le 4 V2
  ·exact h.le 5 V2
  ·exact h.le 6 V2
  ·exact h.le 7 V2
 ·have hu:Upd N w wr:=dm hI.up h.up fun b hb hs=>by
   rcases hin b hb with h | h
   ·exact h.1
   ·omega
  exact ((hu.setCell (p:=⟨g,1,none⟩) (fun _=>hNg) u1).setCell (p:=⟨g,2,none⟩) (fun _=>hNg) u2).setCell (p:=⟨g,0,none⟩) (fun _=>hNg) u0
end
end Nm
end Go.Proofs.YtcgibpdjfgjldaaGreatDoor
