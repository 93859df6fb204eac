/- DERIVED. NmRw, NmRx, NmQt. By an AI agent. -/
import Derived.Test.YtpoepignpdfleaaGreatDoorY27
import Derived.Test.YtpoepignpdfleaaGreatDoorY01
import Derived.Test.YtpoepignpdfleaaGreatDoorY06
import Derived.Test.YtpoepignpdfleaaGreatDoorY10
set_option maxRecDepth 100000
set_option maxHeartbeats 4000000
namespace Go.Proofs.YtpoepignpdfleaaGreatDoor.Nm
open Go Go.ChangeShapes Go.WideShapes Go.ChangeAt Go.RowKit Lx Args Pa Sh
set_option linter.unusedVariables false
set_option linter.unusedSimpArgs false
section
variable {N N' X : Nat → Prop} {lo : Nat} {w w' : World} {g : Nat} {v : Nat → Value} {d d' : RS}
theorem RV.put(h:RV N lo w g v d)(i:Nat)(hi:i < 8){u:Value}(hown:w.ownsRow lo (rvT i) (rvZ i) u (rvN d' i) (rvX d' i))(hug:u.ownBlock≠some g)(huj:∀ j,j < 8→j≠i→∀ b,u.ownBlock=some b→(v j).ownBlock≠some b)
  (hd:∀ j,j < 8→j≠i→rvN d' j=rvN d j∧rvX d' j=rvX d j) (hbad:d'.bad=d.bad) (hlen:d'.many.length=d'.fn.length) (hN:∀ b,N b→N' b) (hN':∀ b,u.ownBlock=some b→N' b) :
  RV N' lo (w.setCell ⟨g,rvC i,none⟩ u) g (setV v i u) d':=by
 obtain ⟨ba,hb,hba⟩:=h.blk
 have hs:Upd (fun b=>b=g) w (w.setCell ⟨g,rvC i,none⟩ u):=(Upd.refl (fun b=>b=g) w).setCell (p:=⟨g,rvC i,none⟩) (fun _=>rfl) u
 have hset:=hb.set (rvC i) u
 refine ⟨⟨ba,?_,fun a ha=>hba a (by rw [←hbad];exact ha)⟩,fun j hj=>?_,fun j k hj hk hjk b hjb hkb=>?_,fun j hj=>?_,⟨hN g h.inN.1,fun j hj b hjb=>?_⟩,⟨h.low.1,?_⟩,hlen⟩
 ·rw [hbad]
  have e:(#[v 0,v 1,v 2,v 3,v 4,.int .i64 ba,.bool d.bad.isSome,v 5,v 6,v 7]:Array Value).setIfInBounds (rvC i) u = #[setV v i u 0,setV v i u 1,setV v i u 2,setV v i u 3,setV v i u 4,.int .i64 ba,.bool d.bad.isSome,setV v i u 5,setV v i u 6,setV v i u 7]:=by
   have h8:i = 0∨i = 1∨i = 2∨i = 3∨i = 4∨i = 5∨i = 6∨i = 7:=by omega
   rcases h8 with rfl | rfl | rfl | rfl | rfl | rfl | rfl | rfl <;> rfl
  rw [←e];exact hset
 ·by_cases hji:j=i
  ·subst hji
   unfold setV
   rw [if_pos rfl]
   exact own_updV hown hs fun b hb e=>hug (by rw [hb,e])
  ·unfold setV
   rw [if_neg hji,(hd j hj hji).1,(hd j hj hji).2]
   exact own_updV (h.own j hj) hs fun b hb e=>h.far j hj (by rw [hb,e])
 ·unfold setV at hjb hkb
  by_cases hji:j=i
  ·rw [if_pos hji] at hjb
   rw [if_neg (fun e=>hjk (hji.trans e.symm))] at hkb
   exact huj k hk (fun e=>hjk (hji.trans e.symm)) b hjb hkb
  ·rw [if_neg hji] at hjb
   by_cases hki:k=i
   ·rw [if_pos hki] at hkb
    exact huj j hj hji b hkb hjb
   ·rw [if_neg hki] at hkb
    exact h.dis j k hj hk hjk b hjb hkb
 ·unfold setV
  by_cases hji:j=i
  ·rw [if_pos hji];exact hug
  ·rw [if_neg hji];exact h.far j hj
 ·unfold setV at hjb
  by_cases hji:j=i
  ·rw [if_pos hji] at hjb
   exact hN' b hjb
  ·rw [if_neg hji] at hjb
   exact hN b (h.inN.2 j hj b hjb)
 ·have:=hs.size;have:=h.low.2;omega
def RvB(g:Nat)(v:Nat→Value):Nat→Prop:=fun b=>b=g∨∃ i,i < 8∧(v i).ownBlock=some b
theorem RV.own_(h:RV N lo w g v d):RV (RvB g v) lo w g v d:=
 ⟨h.blk,h.own,h.dis,h.far,⟨.inl rfl,fun i hi b hb=>.inr ⟨i,hi,hb⟩⟩,h.low,h.len⟩
theorem RV.sub(h:RV N lo w g v d){b:Nat}(hb:RvB g v b):N b:=by
 rcases hb with rfl | ⟨i,hi,hb⟩
 ·exact h.inN.1
 ·exact h.inN.2 i hi b hb
end
def StmtP(z:Tz):Prop:=∀ (w0 w:World) (N:Nat→Prop) (lo g:Nat) (v:Nat→Value) (d:RS) (m:Nat) (k a:Int) (s:Bs) (n:Nat) (A:Option Addr) (la cA:Nat) (B:Option Addr) (lb cB:Nat),Below w0.heap.size w0 w→TIc True w0 z (nzC k a s n A la cA B lb cB) →
  (∀ b,N b→w0.heap.size≤b)→RV N lo w g v d→(∀ i,i < 8→rvN d i≤m)→m+nbz z≤1099511627776 →
  Calls Tryz.prog 34 #[.pointer (some ⟨g,0,none⟩),nzA k a s n A la cA B lb cB] w (RStP N lo w g (rsB z d) (m+nbz z))
theorem RStP.more{N:Nat→Prop}{lo:Nat}{w:World}{g:Nat}{d:RS}{m m':Nat}{e:Ending}{w':World}(h:RStP N lo w g d m e w')(hm:m≤m'):RStP N lo w g d m' e w':=
 ⟨h.1,h.2.1,fun i hi=>Nat.le_trans (h.2.2.1 i hi) hm,h.2.2.2⟩
structure RvI(N:Nat→Prop)(lo:Nat)(w:World)(g:Nat)(v:Nat→Value)(cs:Array Value)(d:RS)(m:Nat)(wx:World):Prop where
 rv:RV (fun b=>(N b∧b < w.heap.size)∨w.heap.size < b) lo wx g v d
 le:∀ i,i < 8→rvN d i≤m
 up:Upd N w wx
 bx:Blk wx w.heap.size 26 cs
section
variable {N : Nat → Prop} {lo : Nat} {w wx wy : World} {g : Nat} {v : Nat → Value} {cs : Array Value} {d d' : RS} {m m' : Nat}
theorem RvI.of_ea(hR:RV N lo w g v d)(hle:∀ i,i < 8→rvN d i≤m){b:Option Int}(hE:EaI w wx g (v 0) (v 1) (v 2) (v 3) (v 4) (v 5) (v 6) (v 7) d b cs):RvI N lo w g v cs { d with bad:=b } m wx:=by
 refine ⟨(hR.mono (N':=fun b=>(N b∧b < w.heap.size)∨w.heap.size < b) fun b h1 h2=>.inl ⟨h1,h2⟩).exR hE.ev hE.up,fun i hi=>?_,hE.up.mono fun b hb=>hb ▸ hR.inN.1,hE.bx⟩
 have:=hle i hi
 have h8:i = 0∨i = 1∨i = 2∨i = 3∨i = 4∨i = 5∨i = 6∨i = 7:=by omega
 rcases h8 with rfl | rfl | rfl | rfl | rfl | rfl | rfl | rfl <;> exact this
theorem RvI.below(h:RvI N lo w g v cs d m wx)(hb:Below wx.heap.size wx wy):RvI N lo w g v cs d m wy:=
 ⟨h.rv.below hb,h.le,h.up.trans (Upd.of_below hb _),h.bx.below hb h.bx.lt⟩
theorem RvI.more(h:RvI N lo w g v cs d m wx)(hm:m≤m'):RvI N lo w g v cs d m' wx:=⟨h.rv,fun i hi=>Nat.le_trans (h.le i hi) hm,h.up,h.bx⟩
theorem RvI.notg(h:RvI N lo w g v cs d m wx):¬ w.heap.size=g:=fun e=>by
 rcases h.rv.inN.1 with h | h <;> omega
theorem RvI.notv(h:RvI N lo w g v cs d m wx)(i:Nat)(hi:i < 8):¬ (v i).ownBlock=some w.heap.size:=fun e=>by
 rcases h.rv.inN.2 i hi _ e with h | h <;> omega
theorem RvI.end_(h:RvI N lo w g v cs d m wx):RStP N lo w g d m (.returned (.tuple #[])) wx:=
 ⟨rfl,⟨v,h.rv.mono fun b hb _=>hb.imp (fun h=>h.1) fun h=>Nat.le_of_lt h⟩,h.le,h.up⟩
theorem RvI.row(h:RvI N lo w g v cs d m wx)(i:Nat)(hi:i < 8){w8:World}{u:Value}(hu:Upd (fun b=>(v i).ownBlock=some b) wx w8)(hown:w8.ownsRow lo (rvT i) (rvZ i) u (rvN d' i) (rvX d' i))(hat:u.ownBlock=(v i).ownBlock∨∃ b,u.ownBlock=some b∧wx.heap.size≤b)
  (hd:∀ j,j < 8→j≠i→rvN d' j=rvN d j∧rvX d' j=rvX d j) (hbad:d'.bad=d.bad) (hlen:d'.many.length=d'.fn.length) (hm:m≤m') (hmi:rvN d' i≤m') :
  RvI N lo w g (setV v i u) cs d' m' (w8.setCell ⟨g,rvC i,none⟩ u):=by
 have hlt:=h.bx.lt
 obtain ⟨h1,h2⟩:=h.rv.row i hi hu hown hat hd hbad hlen (N':=fun b=>(N b∧b < w.heap.size)∨w.heap.size < b) (fun b hb=>hb) fun b hb _=>.inr (by omega)
 refine ⟨h1,fun j hj=>?_,upd_then h.up h2 fun b hb hs=>?_,h.bx.upd h2 fun hb=>hb.elim (h.notv i hi) fun e=>h.notg e⟩
 ·by_cases hji:j=i
  ·rw [hji];exact hmi
  ·rw [(hd j hj hji).1];exact Nat.le_trans (h.le j hj) hm
 ·rcases hb with hb | hb
  ·rcases h.rv.inN.2 i hi b hb with h' | h'
   ·exact h'.1
   ·omega
  ·rcases h.rv.inN.1 with h' | h'
   ·rw [hb];exact h'.1
   ·omega
theorem RvI.zed(h:RvI N lo w g v cs d m wx)(i:Nat)(hi:i < 8){w8:World}(hu:Upd (fun b=>(v i).ownBlock=some b) wx w8) :
  Blk w8 w.heap.size 26 cs∧∃ x5 x6,Blk w8 g 82 #[v 0,v 1,v 2,v 3,v 4,x5,x6,v 5,v 6,v 7]:=by
 obtain ⟨ba,hb,_⟩:=h.rv.blk
 exact ⟨h.bx.upd hu (h.notv i hi),_,_,hb.upd hu (h.rv.far i hi)⟩
end
theorem twB_nodup:∀ l:List Bs,twB l=false↔l.Nodup
 | []=>by simp [twB]
 | s :: l=>by
  unfold twB
  rw [List.nodup_cons,←twB_nodup l]
  simp
theorem nodup_take{l:List Bs}{i:Nat}{x:Bs}(hx:l[i]?=some x):(l.take (i+1)).Nodup↔(l.take i).Nodup∧¬ x∈l.take i:=by
 rw [List.take_add_one,hx,Option.toList_some,List.nodup_append]
 constructor
 ·rintro ⟨h1,_,h3⟩
  exact ⟨h1,fun h=>h3 x h x (by simp) rfl⟩
 ·rintro ⟨h1,h2⟩
  refine ⟨h1,by simp,fun a ha b hb=>?_⟩
  obtain rfl:=List.mem_singleton.1 hb
  intro e;subst e;exact h2 ha
theorem twice_(w:World)(A:Option Addr)(c:Nat)(l:List Bs)(hL:Lies w A (l.map strV))(hc:l.length≤c)(hm:c≤maxLen) :
  Calls Tryz.prog 56 #[.slice A l.length c] w fun e w'=>e = .returned (.bool (twB l))∧Below w.heap.size w w':=by
 have hl:l.length≤maxLen:=Nat.le_trans hc hm
 have hlm:l.length≤9223372036854775807:=hl
 have hcm:c≤9223372036854775807:=hm
 obtain ⟨res,hres⟩:∃ res,twB l=res:=⟨_,rfl⟩
 rw [hres]
 have HL:=Hi hL;have HRES:=Hi hres
 clear hL hres
 go_enter Tryz.func56,Tryz.ntmps56
 go_wp2_with fail
 go_loopw [3] (fun vi wr=>∃ i:Nat,i≤l.length∧vi = .int .i64 (i:Int)∧Hid (Below w.heap.size w wr)∧Hid ((l.take i).Nodup)) (fun vi _=>l.length - (intOf vi).toNat)
 case atStart=>exact ⟨0,by omega,rfl,Hi (Below.refl _ _),Hi (by simp)⟩
 case round=>
  obtain ⟨i,hi,rfl,HBr,HN⟩:=hrel
  by_cases hlt:i < l.length
  ·obtain ⟨x,hx⟩:∃ x,l[i]?=some x:=⟨_,List.getElem?_eq_getElem hlt⟩
   have hdr:Below wr.heap.size wr wr.drew:=Below.drew (Below.refl _ _)
   obtain ⟨wz,hwd⟩:∃ v,wr.drew=v:=⟨_,rfl⟩
   rw [hwd] at hdr
   have hbz:=HBr.out.trans (hdr.mono HBr.out.size)
   have f1:(l.map strV)[i]?=some (.string ⟨x.toArray⟩):=by rw [List.getElem?_map,hx];rfl
   obtain ⟨b,o,rfl,_,hcc⟩:=(HL.out.below hbz).at_ f1
   have e1:=hcc _ _ f1
   have htl:(l.take i).length=i:=by rw [List.length_take];omega
   have hlies:Lies wz (some ⟨b,o,none⟩) ((l.take i).map strV):=fun j u hj=>(HL.out.below hbz) j u (by
    rw [List.map_take,List.getElem?_take] at hj
    split at hj
    ·exact hj
    ·cases hj)
   have hin:=in_big (some ⟨b,o,none⟩) c (l.take i) ⟨x.toArray⟩ wz hlies (by rw [htl];omega)
   rw [htl,show (ByteArray.mk x.toArray).data.toList=x by simp] at hin
   obtain ⟨q,hq⟩:∃ q,(l.take i).contains x=q:=⟨_,rfl⟩
   rw [hq] at hin
   have HIN:=Hi hin;have HQ:=Hi hq;have HX:=Hi hx;have HBz:=Hi hbz
   have j1:(0:Int)≤(i:Int):=by omega
   have j2:(i:Int)≤(l.length:Int):=by omega
   have j3:(i:Int)≤(c:Int):=by omega
   clear hcc f1 hlies hin hq hx hbz hdr htl
   go_wp2_with fail
   refine HT.wp_region (Z:=fun w'=>w'=wz) (S:=fun _=>True) (st:=[]) (by kernel_rfl) ?_
   rw [hwd]
   clear hwd
   refine HT.tk 0 rfl (by intro v hSw;subst hSw;go_simp;try with_reducible rfl) rfl HT.tr ?_
   refine HT.tk 1 rfl (by intro v hSw;subst hSw;go_simp;try with_reducible rfl) rfl HT.tr ?_
   refine HT.tk 2 rfl (by intro v hSw;subst hSw;go_simp;try with_reducible rfl) rfl HT.tr ?_
   refine HT.tk 3 rfl (by intro v hSw;subst hSw;go_simp;try with_reducible rfl) rfl HT.tr ?_
   refine HT.tk 4 rfl (by intro v hSw;subst hSw;go_simp;try with_reducible rfl) rfl HT.tr ?_
   refine HT.tk 5 rfl (by intro v hSw;subst hSw;go_simp;try with_reducible rfl) rfl HT.tr ?_
   refine HT.tk 6 rfl (by intro v hSw;subst hSw;go_simp;try with_reducible rfl) rfl HT.tr ?_
   refine HT.one (i:=7) (by kernel_rfl) rfl (fun K hK=>?_)
   go_simp
   refine HIN.out.mono ?_
   rintro e w' ⟨rfl,rfl⟩
   (try dsimp only)
   refine hK.out _ _ rfl trivial ?_
   clear hK K
   (try simp only [HT.pS])
   refine HT.done (by kernel_rfl) ?_
   cases q with
   | true=>
    have HR:=Hi (show true=res from by
     rw [←HRES.out]
     cases ht:twB l with
     | true=>rfl
     | false=>
      have h1:=(twB_nodup l).1 ht
      have h2:(l.take (i+1)).Nodup:=h1.sublist (List.take_sublist _ _)
      exact absurd (List.contains_iff_mem.1 HQ.out) ((nodup_take HX.out).1 h2).2)
    go_wp2_with fail
    go_ret
    exact ⟨congrArg (fun b=>Ending.returned (Value.bool b)) HR.out,HBz.out⟩
   | false=>
    have HN2:=Hi (show (l.take (i+1)).Nodup from (nodup_take HX.out).2 ⟨HN.out,fun h=>by have:=List.contains_iff_mem.2 h;rw [HQ.out] at this;cases this⟩)
    go_wp2_with fail
    go_roundw
    case rel=>exact ⟨i+1,by omega,by go_num,HBz,HN2⟩
    case measure=>simp [intOf];omega
  ·have HR:=Hi (show false=res from by rw [←HRES.out];exact ((twB_nodup l).2 (by have h:=HN.out;rw [List.take_of_length_le (by omega)] at h;exact h)).symm)
   go_wp2_with fail
   go_ret
   exact ⟨congrArg (fun b=>Ending.returned (Value.bool b)) HR.out,HBr.out⟩
end Go.Proofs.YtpoepignpdfleaaGreatDoor.Nm
