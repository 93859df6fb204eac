/- DERIVED. NmRc. By an AI agent. -/
import Derived.Test.YtpoepignpdfleaaGreatDoorY01
import Derived.Test.YtpoepignpdfleaaGreatDoorY06
import Derived.Test.YtpoepignpdfleaaGreatDoorY35
import Derived.Test.YtpoepignpdfleaaGreatDoorY27
set_option maxRecDepth 100000
set_option maxHeartbeats 4000000
namespace Go.Proofs.YtpoepignpdfleaaGreatDoor.Nm
open Go Go.ChangeShapes Go.WideShapes Go.ChangeAt Go.RowKit Lx Args Pa Sh
set_option linter.unusedVariables false
set_option linter.unusedSimpArgs false
theorem resNmR{g:Nat}{n:Array Value}{W:World}(hN:Blk W g 29 n)(hs:some 3=some n.size)(tmps:Array Value)(h2:tmps.getD 2 undef = .pointer (some ⟨g,0,none⟩)) :
  (results Tryz.f19 tmps).run Tryz.prog W = .ok (.tuple #[.agg n,tmps.getD 3 undef,tmps.getD 4 undef]) W:=
 results_ctt rfl tmps W g (.agg n) h2 (run_loadVar_row W g 29 29 n (0,0) _ hN Tryz.underlying29 rfl (szNm.trans hs))
def v0R(a b:Nat):Nat→Value
 | 3=>.slice (some ⟨a,0,none⟩) 1 1
 | 4=>.slice (some ⟨b,0,none⟩) 1 1
 | _=>.slice none 0 0
theorem first_rv{w w1 w2 w3:World}(h1:w.alloc (.cells #[.string ⟨#[115,101,108]⟩] 9)=w1)(h2:w1.alloc (.cells #[.int .i64 3] 3)=w2){lo:Nat}(hlo:lo≤w.heap.size)
  (h3:w2.alloc (.cells #[.slice none 0 0,.slice none 0 0,.slice none 0 0,.slice (some ⟨w.heap.size,0,none⟩) 1 1,.slice (some ⟨w1.heap.size,0,none⟩) 1 1,.int .i64 0,.bool false,.slice none 0 0,.slice none 0 0,.slice none 0 0] 82)=w3) :
  RV (fun b=>w.heap.size≤b) lo w3 w2.heap.size (v0R w.heap.size w1.heap.size) initR∧Below w.heap.size w w3:=by
 have s1:w1.heap.size=w.heap.size+1:=by rw [←h1];simp
 have s2:w2.heap.size=w1.heap.size+1:=by rw [←h2];simp
 have s3:w3.heap.size=w2.heap.size+1:=by rw [←h3];simp
 have hb1:Below w.heap.size w w1:=by rw [←h1];exact (Below.refl _ _).alloc (Nat.le_refl _) _
 have hb2:Below w1.heap.size w1 w2:=by rw [←h2];exact (Below.refl _ _).alloc (Nat.le_refl _) _
 have hb3:Below w2.heap.size w2 w3:=by rw [←h3];exact (Below.refl _ _).alloc (Nat.le_refl _) _
 have o3:w3.ownsRow lo 9 1 (.slice (some ⟨w.heap.size,0,none⟩) 1 1) 1 [strV sel]:=by
  have h:w1.ownsRow lo 9 1 (.slice (some ⟨w.heap.size,0,none⟩) 1 1) 1 [strV sel]:=by rw [←h1];exact own_full w hlo _ 1 1 [strV sel] rfl (by decide)
  exact own_updV (own_updV h (Upd.of_below hb2 fun _=>False) fun _ _ h=>h) (Upd.of_below hb3 fun _=>False) fun _ _ h=>h
 have o4:w3.ownsRow lo 3 1 (.slice (some ⟨w1.heap.size,0,none⟩) 1 1) 1 [intV 3]:=by
  have h:w2.ownsRow lo 3 1 (.slice (some ⟨w1.heap.size,0,none⟩) 1 1) 1 [intV 3]:=by rw [←h2];exact own_full w1 (by omega) _ 1 1 [intV 3] rfl (by decide)
  exact own_updV h (Upd.of_below hb3 fun _=>False) fun _ _ h=>h
 have hbk:Blk w3 w2.heap.size 82 #[.slice none 0 0,.slice none 0 0,.slice none 0 0,.slice (some ⟨w.heap.size,0,none⟩) 1 1,.slice (some ⟨w1.heap.size,0,none⟩) 1 1,.int .i64 0,.bool false,.slice none 0 0,.slice none 0 0,.slice none 0 0]:=by rw [←h3];exact Blk.new _ _ _
 have hcase:∀ j,j < 8→∀ b,(v0R w.heap.size w1.heap.size j).ownBlock=some b→(j = 3∧b=w.heap.size)∨(j = 4∧b=w1.heap.size):=fun j hj b hb=>by
  have h8:j = 0∨j = 1∨j = 2∨j = 3∨j = 4∨j = 5∨j = 6∨j = 7:=by omega
  rcases h8 with rfl | rfl | rfl | rfl | rfl | rfl | rfl | rfl
  ·cases hb
  ·cases hb
  ·cases hb
  ·exact .inl ⟨rfl,(Option.some.inj hb).symm⟩
  ·exact .inr ⟨rfl,(Option.some.inj hb).symm⟩
  ·cases hb
  ·cases hb
  ·cases hb
 refine ⟨⟨⟨0,hbk,fun a h=>by cases h⟩,fun j hj=>?_,fun i j hi hj hij b hb hb'=>?_,fun j hj hb=>?_,⟨by show w.heap.size≤w2.heap.size;omega,fun j hj b hb=>?_⟩,⟨by omega,by omega⟩,rfl⟩,(hb1.trans (hb2.mono hb1.size)).trans (hb3.mono (by omega))⟩
 ·have h8:j = 0∨j = 1∨j = 2∨j = 3∨j = 4∨j = 5∨j = 6∨j = 7:=by omega
  rcases h8 with rfl | rfl | rfl | rfl | rfl | rfl | rfl | rfl
  ·exact World.ownsRow_nil _ _ _ _
  ·exact World.ownsRow_nil _ _ _ _
  ·exact World.ownsRow_nil _ _ _ _
  ·exact o3
  ·exact o4
  ·exact World.ownsRow_nil _ _ _ _
  ·exact World.ownsRow_nil _ _ _ _
  ·exact World.ownsRow_nil _ _ _ _
 ·rcases hcase i hi b hb with ⟨rfl,h⟩ | ⟨rfl,h⟩ <;> rcases hcase j hj b hb' with ⟨rfl,h'⟩ | ⟨rfl,h'⟩
  ·exact hij rfl
  ·omega
  ·omega
  ·exact hij rfl
 ·rcases hcase j hj _ hb with ⟨_,h⟩ | ⟨_,h⟩ <;> omega
 ·show w.heap.size≤b
  rcases hcase j hj b hb with ⟨_,h⟩ | ⟨_,h⟩ <;> omega
theorem rcheck(z:Tz)(hok:okPs 0 (lz z))(hm:nbz z≤1099511627776)(w:World)(k a:Int)(s:Bs)(n:Nat)(A:Option Addr)(la cA:Nat)(B:Option Addr)(lb cB:Nat)(hT:TIc True w z (nzC k a s n A la cA B lb cB)) :
  Calls Tryz.prog 19 #[nzA k a s n A la cA B lb cB] w (ChkP w (ckB z)):=by
 have hboth:=ck_both hok
 obtain ⟨k1,a1,s1,n1,ps,l⟩:=z
 obtain ⟨rfl,rfl,rfl,rfl,rfl,rfl,hl,_,_,css,hL,hS⟩:=tIz_parts hT
 have hlm:l.length≤9223372036854775807:=hl
 have hnb:nbz (.mk k a s n ps l)=ps.length+1+nbzs l:=rfl
 have hck:ckR (.mk k a s n ps l)=rsBs 0 l initR:=rfl
 rw [hck] at hboth
 obtain ⟨w1,hw1,hb1,hX1,hs1⟩:=a_box w (nB k a s n A l.length cA B ps.length cB)
 obtain ⟨w2,hw2⟩:∃ w2,w1.alloc (.cells nil3 29)=w2:=⟨_,rfl⟩
 have hb2:Below w1.heap.size w1 w2:=by rw [←hw2];exact (Below.refl _ _).alloc (Nat.le_refl _) _
 have hR2:Blk w2 w1.heap.size 29 nil3:=by rw [←hw2];exact Blk.new _ _ _
 have hs2:w2.heap.size=w1.heap.size+1:=by rw [←hw2];simp
 rw [hs1] at hR2
 obtain ⟨w3,hw3⟩:∃ u,w2.alloc (.cells #[.string ⟨#[115,101,108]⟩] 9)=u:=⟨_,rfl⟩
 obtain ⟨w4,hw4⟩:∃ u,w3.alloc (.cells #[.int .i64 3] 3)=u:=⟨_,rfl⟩
 obtain ⟨x3,hx3⟩:∃ b,w2.heap.size=b:=⟨_,rfl⟩
 obtain ⟨x4,hx4⟩:∃ b,w3.heap.size=b:=⟨_,rfl⟩
 obtain ⟨g,hg⟩:∃ b,w4.heap.size=b:=⟨_,rfl⟩
 obtain ⟨w5,hw5⟩:∃ u,w4.alloc (.cells #[.slice none 0 0,.slice none 0 0,.slice none 0 0,.slice (some ⟨x3,0,none⟩) 1 1,.slice (some ⟨x4,0,none⟩) 1 1,.int .i64 0,.bool false,.slice none 0 0,.slice none 0 0,.slice none 0 0] 82)=u:=⟨_,rfl⟩
 obtain ⟨hRV,hb5⟩:=first_rv (w3:=w5) hw3 hw4 (Nat.le_refl _) (by rw [hx3,hx4];exact hw5)
 rw [hg] at hRV
 have hgs:w.heap.size+2≤g:=by rw [←hg,←hw4,←hw3];simp;omega
 have hs23:w2.heap.size=w.heap.size+2:=by omega
 have hb05:Below w.heap.size w w5:=(hb1.trans (hb2.mono hb1.size)).trans (hb5.mono (by omega))
 have hR5:=hR2.below hb5 hR2.lt
 have hN5:=(hX1.below hb2 hX1.lt).below hb5 (by omega)
 have HB5:=Hi hb05;have HR5:=Hi hR5;have HN5:=Hi hN5;have HBOTH:=Hi hboth;have HL:=Hi hL;have HS:=Hi hS
 have H0:=Hi (show RvJ (fun b=>w.heap.size+2≤b) w2.heap.size g w5 (v0R x3 x4) (rsBs 0 (l.take 0) initR) (1+nbzs (l.take 0)) w5 from by
  rw [List.take_zero,rsBs_nil,←hx3,←hx4]
  refine ⟨hRV.mono fun b hb _=>.inl (by rw [hs23] at hb;exact hb),fun i hi=>?_,Upd.refl _ _⟩
  have h8:i = 0∨i = 1∨i = 2∨i = 3∨i = 4∨i = 5∨i = 6∨i = 7:=by omega
  rcases h8 with rfl | rfl | rfl | rfl | rfl | rfl | rfl | rfl <;> decide)
 have HW1:=Hi hw1;have HW2:=Hi hw2;have HW3:=Hi hw3;have HW4:=Hi hw4;have HW5:=Hi hw5;have HX3:=Hi hx3;have HX4:=Hi (show x3+1=x4 by rw [←hx4,←hw3];simp;omega);have HG:=Hi (show x4+1=g by rw [←hg,←hw4];simp;omega)
 have HGS:=Hi hgs;have HS23:=Hi hs23;have HM:=Hi (show 1+nbzs l≤1099511627776 by omega)
 have HXN:=Hi (show ∀ b,New (fun b=>w.heap.size+2≤b) w5 b→w.heap.size≤b from fun b hb=>by
  have:=hb05.size
  rcases hb with hb | hb <;> omega)
 obtain ⟨res,hres⟩:∃ res,ckB (.mk k a s n ps l)=res:=⟨_,rfl⟩
 rw [hres] at HBOTH ⊢
 clear hT hL hS hl hm hw1 hb1 hX1 hs1 hw2 hb2 hR2 hs2 hw3 hw4 hw5 hx3 hx4 hg hRV hb5 hb05 hR5 hN5 hgs hs23 hboth hck hnb hres hok
 go_enter Tryz.func19,Tryz.ntmps19
 go_upto_region 1 with fail
 rw [HW1.out]
 rw [show w1.alloc (.cells #[.slice none 0 0,.slice none 0 0,.slice none 0 0] 29)=w2 from HW2.out]
 go_upto_region 2 with fail
 rw [HW3.out,HX3.out,HW4.out]
 simp only [HX4.out,HG.out]
 rw [HW5.out]
 go_upto_region 3 with fail
 go_loopw [6] (fun vi wr=>∃ (j:Nat) (v5:Nat→Value),j≤l.length∧vi = .int .i64 (j:Int)∧Hid (RvJ (fun b=>w.heap.size+2≤b) w2.heap.size g w5 v5 (rsBs 0 (l.take j) initR) (1+nbzs (l.take j)) wr)) (fun vi _=>l.length - (intOf vi).toNat)
 case atStart=>exact ⟨0,_,by omega,rfl,H0⟩
 case round=>
  clear H0
  obtain ⟨j,v5,hj,rfl,HJ⟩:=hrel
  obtain ⟨⟨e0,e1,e2,e3,e4,e5⟩,z0,z1,z2,z3,z4,z5⟩:=Blk.c6 (HN5.out.upd HJ.out.up (by omega))
  by_cases hlt:j < l.length
  ·obtain ⟨x,hx⟩:∃ x,l[j]?=some x:=⟨_,List.getElem?_eq_getElem hlt⟩
   have HBr:=Hi (HB5.out.trans (HJ.out.up.below HB5.out.size fun b hb=>HXN.out b (.inl hb)))
   obtain ⟨b2',o2,k3,a3,s3,n3,A3',la3,cA3,B3,lb3,cB3,rfl,hTx,hb3,g0,g1,g2,g3,g4,g5⟩:=partz_b HBr.out HL.out HS.out hx
   have hmb:1+nbzs (l.take j)+nbz x≤1099511627776:=by
    have h1:=nbzs_at _ _ _ hx;have h3:=HM.out;omega
   have HC:=Hi (rstmt (SizeOf.sizeOf x+1) x (Nat.lt_succ_self _) w wr (New (fun b=>w.heap.size+2≤b) w5) w2.heap.size g v5 _ _ k3 a3 s3 n3 A3' la3 cA3 B3 lb3 cB3 HBr.out hTx HXN.out HJ.out.rv HJ.out.le hmb)
   have HXX:=Hi hx
   clear hTx hx hmb
   go_wp2_with fail
   refine HC.out.mono ?_
   intro e w6 hr
   obtain ⟨rfl,v6,h6⟩:=HJ.out.step hr
   have H3:=Hi (show RvJ (fun b=>w.heap.size+2≤b) w2.heap.size g w5 v6 (rsBs 0 (l.take (j+1)) initR) (1+nbzs (l.take (j+1))) w6 from by
    rw [rsBs_take _ _ _ _ HXX.out,nbzs_take _ _ _ HXX.out,←Nat.add_assoc];exact h6)
   clear hr h6 HC e0 e1 e2 e3 e4 e5 z0 z1 z2 z3 z4 z5 g0 g1 g2 g3 g4 g5
   go_wp2_with fail
   go_roundw
   case rel=>exact ⟨j+1,v6,by omega,by go_num,H3⟩
   case measure=>simp [intOf];omega
  ·have hfull:=HJ.out
   rw [List.take_of_length_le (by omega)] at hfull
   obtain ⟨dE,hdE⟩:∃ e,rsBs 0 l initR=e:=⟨_,rfl⟩
   rw [hdE] at hfull HBOTH
   have HB7:=Hi (HB5.out.trans (hfull.up.below HB5.out.size fun b hb=>by omega))
   have hR7:=HR5.out.upd hfull.up (by omega)
   obtain ⟨q0,q1,q2,y0,y1,y2⟩:=Blk.c3 (show Blk wr (w.heap.size+1) 29 #[.slice none 0 0,.slice none 0 0,.slice none 0 0] from hR7)
   have hRlt:=hR7.lt
   obtain ⟨ba,hbk,hba⟩:=hfull.rv.blk
   have hgl:=hbk.lt
   cases res with
   | bad a1=>
    have hbd:dE.bad=some a1:=HBOTH.out
    obtain rfl:ba=a1:=hba _ hbd
    have hsome:dE.bad.isSome=true:=by rw [hbd];rfl
    rw [hsome] at hbk
    obtain ⟨⟨c0,c1,c2,c3,c4,c5,c6,c7,c8,c9⟩,f5,f6⟩:=EV.c10 hbk
    have hdr:Below wr.heap.size wr wr.drew:=Below.drew (Below.refl _ _)
    have HNG:=Hi (show ¬ g=w.heap.size+1 from by have:=HGS.out;omega)
    obtain ⟨wz,hwd⟩:∃ u,wr.drew=u:=⟨_,rfl⟩
    rw [hwd] at hdr
    have HBZ:=Hi (HB7.out.trans (hdr.mono HB7.out.size))
    have hZ0:Upd (fun b=>b=w.heap.size+1) wz wz:=Upd.refl _ _
    have HKG:=Hi (hbk.below hdr hbk.lt);have HKR:=Hi ((show Blk wr (w.heap.size+1) 29 #[.slice none 0 0,.slice none 0 0,.slice none 0 0] from hR7).below hdr hRlt)
    have hne1:¬ w.heap.size+1=g:=by have:=HGS.out;omega
    clear hfull hdE hR7 hbk hba hbd hsome hdr
    go_upto_region 7 with fail
    go_wp2_with fail
    refine HT.wp_region (Z:=fun w'=>Upd (fun b=>b=w.heap.size+1) wz w') (S:=fun _=>True) (st:=[]) (by kernel_rfl) ?_
    rw [hwd]
    clear hwd
    refine HT.tm 0 rfl hZ0 HT.tr ?_
    refine HT.tm 1 rfl hZ0 HT.tr ?_
    refine HT.tm 2 rfl hZ0 HT.tr ?_
    refine HT.tm 3 rfl hZ0 HT.tr ?_
    refine HT.tk 4 rfl (by intro v hSw;have hA:=HKG.out.upd hSw HNG.out;have C_:=EV.c10 hA;clear hSw hA;go_simp;try with_reducible rfl) hZ0 HT.tr ?_
    obtain ⟨q0,q1,q2,y0,y1,y2⟩:=Blk.c3 HKR.out
    have hRl:=HKR.out.lt
    refine HT.one (i:=5) (by kernel_rfl) rfl (fun K hK=>?_)
    go_simp
    have hZ1:=put3_upd (X:=fun b=>b=w.heap.size+1) hZ0 (fun _=>rfl) (.slice none 0 0) (.slice none 0 0) (.slice none 0 0)
    have hRR:=Blk.put3 HKR.out (.slice none 0 0) (.slice none 0 0) (.slice none 0 0)
    (try dsimp only)
    refine hK.out _ _ hZ1 trivial ?_
    clear hK K
    (try simp only [HT.pS])
    refine HT.one (i:=6) (by kernel_rfl) rfl (fun K hK=>?_)
    go_simp
    (try dsimp only)
    refine hK.out _ _ hZ1 trivial ?_
    clear hK K
    (try simp only [HT.pS])
    refine HT.one (i:=7) (by kernel_rfl) rfl (fun K hK=>?_)
    go_simp
    (try dsimp only)
    refine hK.out _ _ hZ1 trivial ?_
    clear hK K
    (try simp only [HT.pS])
    refine HT.done (by kernel_rfl) ?_
    have HRR:=Hi hRR
    have HEND:=Hi (show ChkP w (.bad ba) (.returned (.tuple #[.agg nil3,.int .i64 ba,.int .i64 120])) (put3 wz (w.heap.size+1) (.slice none 0 0) (.slice none 0 0) (.slice none 0 0)) from ⟨rfl,HBZ.out.trans (hZ1.below HBZ.out.size fun b hb=>by omega)⟩)
    clear hZ0 hZ1 hRR q0 q1 q2 y0 y1 y2 hRl
    go_wp2_with fail
    exact bodyPost_ret (v:=.tuple #[.agg nil3,.int .i64 ba,.int .i64 120]) (resNmR HRR.out rfl _ rfl) rfl HEND.out
   | ok c=>
    have hrl:Rl c dE:=HBOTH.out
    have hbd:dE.bad.isSome=false:=by rw [hrl.good];rfl
    rw [hbd] at hbk
    obtain ⟨⟨c0,c1,c2,c3,c4,c5,c6,c7,c8,c9⟩,f5,f6⟩:=EV.c10 hbk
    have o5:wr.ownsRow w2.heap.size 9 1 (v5 5) dE.se.length (dE.se.map strV):=hfull.rv.own 5 (by decide)
    have o6:wr.ownsRow w2.heap.size 9 1 (v5 6) dE.pu.length (dE.pu.map strV):=hfull.rv.own 6 (by decide)
    have o7:wr.ownsRow w2.heap.size 44 3 (v5 7) dE.ou.length (dE.ou.flatMap laC):=hfull.rv.own 7 (by decide)
    have hl5:dE.se.length≤1+nbzs l:=hfull.le 5 (by decide)
    have hl6:dE.pu.length≤1+nbzs l:=hfull.le 6 (by decide)
    have hl7:dE.ou.length≤1+nbzs l:=hfull.le 7 (by decide)
    rw [hrl.se] at o5 hl5;rw [hrl.pu] at o6 hl6;rw [hrl.ou] at o7 hl7
    have hbnd:=HM.out
    have HBD:=Hi (show c.se.length≤1099511627776∧c.pu.length≤1099511627776∧c.ou.length≤1099511627776 from ⟨by omega,by omega,by omega⟩)
    obtain ⟨As,cs,hv5⟩:=own_sl o5
    obtain ⟨Ap,cp,hv6⟩:=own_sl o6
    obtain ⟨Ao,co,hv7⟩:=own_sl o7
    rw [hv5] at o5 c7;rw [hv6] at o6 c8;rw [hv7] at o7 c9
    have hRR:=Blk.put3 (show Blk wr (w.heap.size+1) 29 #[.slice none 0 0,.slice none 0 0,.slice none 0 0] from hR7) (.slice As c.se.length cs) (.slice Ap c.pu.length cp) (.slice Ao c.ou.length co)
    have HRR:=Hi hRR
    have hun:Upd (fun b=>b=w.heap.size+1) wr (put3 wr (w.heap.size+1) (.slice As c.se.length cs) (.slice Ap c.pu.length cp) (.slice Ao c.ou.length co)):=put3_upd (X:=fun b=>b=w.heap.size+1) (Upd.refl _ _) (fun _=>rfl) _ _ _
    have hs23':=HS23.out
    have hno:∀ b,w2.heap.size≤b→¬ b=w.heap.size+1:=fun b hb=>by omega
    have HEND:=Hi (show ChkP w (.ok c) (.returned (.tuple #[.agg #[.slice As c.se.length cs,.slice Ap c.pu.length cp,.slice Ao c.ou.length co],.int .i64 0,.int .i64 0])) (put3 wr (w.heap.size+1) (.slice As c.se.length cs) (.slice Ap c.pu.length cp) (.slice Ao c.ou.length co)) from
     ⟨_,_,_,rfl,⟨own_lo (own_updV o5 hun fun b hb=>hno b (own_atV o5 b hb).1) (by omega),own_lo (own_updV o6 hun fun b hb=>hno b (own_atV o6 b hb).1) (by omega),own_lo (own_updV o7 hun fun b hb=>hno b (own_atV o7 b hb).1) (by omega),HBD.out⟩,HB7.out.trans (hun.below HB7.out.size fun b hb=>by omega)⟩)
    clear hfull hdE hR7 hRR hba hbd hrl hun hno o5 o6 o7 hl5 hl6 hl7 hv5 hv6 hv7 hbk
    go_wp2_with fail
    exact bodyPost_ret (v:=.tuple #[.agg #[.slice As c.se.length cs,.slice Ap c.pu.length cp,.slice Ao c.ou.length co],.int .i64 0,.int .i64 0]) (resNmR HRR.out rfl _ rfl) rfl HEND.out
end Go.Proofs.YtpoepignpdfleaaGreatDoor.Nm
