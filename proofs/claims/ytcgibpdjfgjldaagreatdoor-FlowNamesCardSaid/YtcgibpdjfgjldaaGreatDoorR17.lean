/- DERIVED. NmRa. By an AI agent. -/
import Derived.Test.YtcgibpdjfgjldaaGreatDoorR11
import Derived.Test.YtcgibpdjfgjldaaGreatDoorR12
import Derived.Test.YtcgibpdjfgjldaaGreatDoorR14
import Derived.Test.YtcgibpdjfgjldaaGreatDoorR15
import Derived.Test.YtcgibpdjfgjldaaGreatDoorR16
set_option maxRecDepth 100000
set_option maxHeartbeats 8000000
set_option linter.unusedVariables false
set_option linter.unusedSimpArgs false
open Go Go.ChangeShapes Go.WideShapes Go.ChangeAt Go.RowKit
namespace Go.Proofs.YtcgibpdjfgjldaaGreatDoor
namespace Nm
open Lx Args Pa Sh
theorem rstb(w0 w:World)(N:Nat->Prop)(lo g:Nat)(v:Nat->Value)(d:RS)(m:Nat)(k a:Int)(s:Bs)(n:Nat)(A:Option Addr)(la cA:Nat)(B:Option Addr)(lb cB:Nat)(hN:N g)(hR:RV N lo w g v d)(hbad:d.bad.isSome=true)(hbd:∀ i,i < 8->rvN d i<=m) :
  Calls Tryz.prog 31 #[.pointer (some ⟨g,0,none⟩),aO k a s n A la cA B lb cB] w (RStP N lo w g d m):=by
 obtain ⟨wn,hwn,hbn,aK,hsn⟩:=dw w (nB k a s n A la cA B lb cB);have hRn:=hR.below hbn;have Ac:=Hi (show RStP N lo w g d m (.returned (.tuple #[])) wn from ⟨rfl,⟨v,hRn.mono fun b hb _=>.inl hb⟩,hbd,Upd.of_below hbn _⟩);have HW:=Hi hwn;obtain ⟨⟨e0,e1,e2,e3,e4,e5⟩,z0,z1,z2,z3,z4,z5⟩:=Aa.c6 aK;obtain ⟨ba,hblk,_⟩:=hRn.blk;rw [hbad] at hblk;obtain ⟨⟨c0,c1,c2,c3,c4,c5,c6,c7,c8,c9⟩,f5,f6⟩:=EV.c10 hblk;have hltn:=aK.lt;have hgl:=hblk.lt;clear hN hR hbd hwn hbn aK hsn hRn hblk;go_enter Tryz.func31,Tryz.ntmps31;go_upto_region 1 with fail
 rw [HW.out];go_wp2_with fail
 first | go_end0 | skip
 all_goals first | exact Ac.out | exact bodyPost_ret (results_none rfl _ _ _) rfl Ac.out
theorem rst0(w0 w:World)(N:Nat->Prop)(lo g:Nat)(v:Nat->Value)(d:RS)(m:Nat)(k a:Int)(s:Bs)(n:Nat)(A:Option Addr)(la cA:Nat)(B:Option Addr)(lb cB:Nat)(hN:N g)(hR:RV N lo w g v d)(hbad:d.bad=none)(h6:¬ k = 6)(h7:¬ k = 7)(h12:¬ k = 12)(h8:¬ k = 8)(h9:¬ k = 9)(h10:¬ k = 10)(h11:¬ k = 11)(hbd:∀ i,i < 8->rvN d i<=m) :
  Calls Tryz.prog 31 #[.pointer (some ⟨g,0,none⟩),aO k a s n A la cA B lb cB] w (RStP N lo w g d m):=by
 obtain ⟨wn,hwn,hbn,aK,hsn⟩:=dw w (nB k a s n A la cA B lb cB);have hRn:=hR.below hbn;have Ac:=Hi (show RStP N lo w g d m (.returned (.tuple #[])) wn from ⟨rfl,⟨v,hRn.mono fun b hb _=>.inl hb⟩,hbd,Upd.of_below hbn _⟩);have HW:=Hi hwn;obtain ⟨⟨e0,e1,e2,e3,e4,e5⟩,z0,z1,z2,z3,z4,z5⟩:=Aa.c6 aK;obtain ⟨ba,hblk,_⟩:=hRn.blk;rw [hbad] at hblk;have b6:(k==6)=false:=by simp [h6]
 have b7:(k==7)=false:=by simp [h7]
 have b12:(k==12)=false:=by simp [h12]
 have b8:(k==8)=false:=by simp [h8]
 have b9:(k==9)=false:=by simp [h9]
 have b10:(k==10)=false:=by simp [h10]
 have b11:(k==11)=false:=by simp [h11]
 obtain ⟨⟨c0,c1,c2,c3,c4,c5,c6,c7,c8,c9⟩,f5,f6⟩:=EV.c10 hblk;have hltn:=aK.lt;have hgl:=hblk.lt;clear hN hR hbd hwn hbn aK hsn hRn hblk;go_enter Tryz.func31,Tryz.ntmps31;go_upto_region 1 with fail
 rw [HW.out];go_wp2_with fail
 first | go_end0 | skip
 all_goals first | exact Ac.out | exact bodyPost_ret (results_none rfl _ _ _) rfl Ac.out
theorem rstmt:∀ (M:Nat) (z:Tz),SizeOf.sizeOf z < M->StmtP z
 | 0,z,h=>absurd h (Nat.not_lt_zero _)
 | M+1,.mk k1 a1 s1 n1 ps l,hM=>fun w0 w N lo g v d m k a s n A la cA B lb cB hb hT hN hR hbd hm=>by
  have hcp:=q3p hT;have hpc:=q4X hT;have hT2:=hT;obtain ⟨rfl,rfl,rfl,rfl,rfl,rfl,hl,hp,hB,css,hL,hS⟩:=q0B hT;have hnb:nbz (.mk k a s n ps l)=ps.length+1+au l:=rfl;rw [hnb] at hm ⊢;cases hbd0:d.bad with
  | some a0=>
   have hs:d.bad.isSome=true:=by rw [hbd0];rfl
   rw [q60 hs];exact (rstb w0 w N lo g v d m k a s n A l.length cA B ps.length cB hR.bY.1 hR hs hbd).mono fun e w' h=>h.more V0
  | none=>
   have hs:¬ d.bad.isSome=true:=by rw [hbd0];simp
   have hsz:∀ (i:Nat) (x:Tz),l[i]?=some x->SizeOf.sizeOf x < M:=fun i x hx=>by
    have:=q0S (k:=k) (a:=a) (n:=n) (s:=s) (ps:=ps) hx;omega
   by_cases h6:k = 6
   ·subst h6;have hd:rsB (.mk 6 a s n ps l) d={ d with bad:=bT none (ps.any (nmR d) || twB ps) a,aT:=d.aT ++ ps,se:=if (6:Int) = 6 then d.se ++ ps else d.se,pu:=if (6:Int) = 6 then d.pu else d.pu ++ ps }:=by unfold rsB;rw [if_neg hs,if_pos rfl,hbd0,if_pos rfl,if_pos rfl]
    rw [hd];exact (rst6 6 (.inl rfl) w0 w N lo g v d m a s n A l.length cA B cB ps hb hB hpc.1 hpc.2 hN hR hbd0 hbd V0).mono fun e w' h=>h.more V0
   by_cases h7:k = 7
   ·subst h7;have hd:rsB (.mk 7 a s n ps l) d={ d with bad:=bT none (ps.any (nmR d) || twB ps) a,aT:=d.aT ++ ps,se:=if (7:Int) = 6 then d.se ++ ps else d.se,pu:=if (7:Int) = 6 then d.pu else d.pu ++ ps }:=by unfold rsB;rw [if_neg hs,if_neg h6,if_pos rfl,hbd0,if_neg h6,if_neg h6]
    rw [hd];exact (rst6 7 (.inr rfl) w0 w N lo g v d m a s n A l.length cA B cB ps hb hB hpc.1 hpc.2 hN hR hbd0 hbd V0).mono fun e w' h=>h.more V0
   by_cases h12:k = 12
   ·subst h12;have hd:rsB (.mk 12 a s n ps l) d={ d with bad:=orO (bT (bT none (nmR d s || twB ps || ps.contains s) a) (ps.any fun p=>d.fn.contains p) a) (aB (fun t=>ps.contains t) (aD d.fn d.many) l),fn:=d.fn ++ [s],many:=d.many ++ [ps.length] }:=by unfold rsB;rw [if_neg hs,if_neg h6,if_neg h7,if_pos rfl,hbd0]
    rw [hd];exact (rst12 w0 w N lo g v d m a s n A cA B cB ps l css hb hL (q0m hS) hl hB hpc.1 hpc.2 hN hR hbd0 hbd V0).mono fun e w' h=>h.more V0
   by_cases h8:k = 8
   ·subst h8;have hd:rsB (.mk 8 a s n ps l) d={ d with bad:=bT (aB (aJ d) (aD d.fn d.many) l) ((d.ou.map (·.1)).contains s) a,ou:=d.ou ++ [(s,((8:Int)==9))] }:=by unfold rsB;rw [if_neg hs,if_neg h6,if_neg h7,if_neg h12,if_pos (.inl rfl),hbd0];rfl
    rw [hd];exact (rst8 8 (.inl rfl) w0 w N lo g v d m a s n A cA B ps.length cB l css hb hL (q0m hS) hl hN hR hbd0 hbd V0).mono fun e w' h=>h.more V0
   by_cases h9:k = 9
   ·subst h9;have hd:rsB (.mk 9 a s n ps l) d={ d with bad:=bT (aB (aJ d) (aD d.fn d.many) l) ((d.ou.map (·.1)).contains s) a,ou:=d.ou ++ [(s,((9:Int)==9))] }:=by unfold rsB;rw [if_neg hs,if_neg h6,if_neg h7,if_neg h12,if_pos (.inr rfl),hbd0];rfl
    rw [hd];exact (rst8 9 (.inr rfl) w0 w N lo g v d m a s n A cA B ps.length cB l css hb hL (q0m hS) hl hN hR hbd0 hbd V0).mono fun e w' h=>h.more V0
   have h89:¬ (k = 8\/k = 9):=fun h=>h.elim h8 h9
   by_cases h10:k = 10
   ·subst h10;have hd:rsB (.mk 10 a s n ps l) d={ d with bad:=bT (aB (aJ d) (aD d.fn d.many) l) (d.aT.contains s || d.aN.contains s || d.fn.contains s) a,var:=d.var ++ [s] }:=by unfold rsB;rw [if_neg hs,if_neg h6,if_neg h7,if_neg h12,if_neg h89,if_pos rfl,hbd0];rfl
    rw [hd];exact (rst10 w0 w N lo g v d m a s n A cA B ps.length cB l css hb hL (q0m hS) hl (hN g hR.bY.1) hR hbd0 hbd V0).mono fun e w' h=>h.more V0
   by_cases h11:k = 11
   ·subst h11;have hd:rsB (.mk 11 a s n ps l) d={ bW 2 l { d with bad:=bT (aB (aJ d) (aD d.fn d.many) (l.take 2)) (nmR d s) a,aN:=d.aN ++ [s] } with var:=d.var,aN:=d.aN,aT:=d.aT }:=by
     conv=>lhs;unfold rsB
     rw [if_neg hs,if_neg h6,if_neg h7,if_neg h12,if_neg h89,if_neg h10,if_pos rfl,hbd0];rfl
    rw [hd];exact (rst11 M (rstmt M) w0 w N lo g v d m a s n A cA B ps.length cB l css hb hL hS hl hsz hN hR hbd0 hbd V0).mono fun e w' h=>h.more V0
   have hd:rsB (.mk k a s n ps l) d=d:=by unfold rsB;rw [if_neg hs,if_neg h6,if_neg h7,if_neg h12,if_neg h89,if_neg h10,if_neg h11]
   rw [hd];exact (rst0 w0 w N lo g v d m k a s n A l.length cA B ps.length cB hR.bY.1 hR hbd0 h6 h7 h12 h8 h9 h10 h11 hbd).mono fun e w' h=>h.more V0
end Nm
end Go.Proofs.YtcgibpdjfgjldaaGreatDoor
