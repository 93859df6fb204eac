/- DERIVED. NmSa, NmSn, NmWp, NmNd, NmTb. By an AI agent. -/
import Derived.Test.YtpoepignpdfleaaGreatDoorY01
import Derived.Test.YtpoepignpdfleaaGreatDoorY27
import Derived.Test.YtpoepignpdfleaaGreatDoorY05
import Derived.StillTailTactics
import Derived.Test.YtpoepignpdfleaaGreatDoorY46
import Derived.Test.YtpoepignpdfleaaGreatDoorY02
import Derived.Test.YtpoepignpdfleaaGreatDoorY06
import Derived.Test.YtpoepignpdfleaaGreatDoorRows
import Derived.ProofKit
import Derived.LaidMore
import Derived.LaidLaws
import Derived.OpenShut
import Derived.MakeChecks
import Derived.Stop.Joined
import Derived.Lay
set_option maxRecDepth 100000
set_option maxHeartbeats 8000000
namespace Go.Proofs.YtpoepignpdfleaaGreatDoor.Nm
open Go Go.ChangeShapes Go.WideShapes Go.ChangeAt Go.RowKit Lx Args Pa Sh
set_option linter.unusedVariables false
set_option linter.unusedSimpArgs false
theorem rsameT:∀ (m:Nat) (z:Tz),SizeOf.sizeOf z < m→∀ (w:World) (k a:Int) (s:Bs) (n:Nat) (A:Option Addr) (la cA:Nat) (B:Option Addr) (lb cB:Nat) (k' a':Int) (s':Bs) (n':Nat) (A':Option Addr) (la' cA':Nat) (B':Option Addr) (lb' cB':Nat),
  TIz w z (nzC k a s n A la cA B lb cB)→TIz w z (nzC k' a' s' n' A' la' cA' B' lb' cB') →
  Calls Tryz.prog 8 #[nzA k a s n A la cA B lb cB,nzA k' a' s' n' A' la' cA' B' lb' cB',.bool true] w
   fun e w'=>e = .returned (.bool true)∧Below w.heap.size w w'
 | 0,z,h=>absurd h (Nat.not_lt_zero _)
 | m+1,.mk k1 a1 s1 n1 ps l,hm=>fun w k a s n A la cA B lb cB k' a' s' n' A' la' cA' B' lb' cB' hT hT'=>by
  obtain ⟨rfl,rfl,rfl,rfl,rfl,rfl,hl,hp,hB,css,hL,hS⟩:=tIz_parts hT
  obtain ⟨rfl,rfl,rfl,rfl,rfl,rfl,_,_,hB',css',hL',hS'⟩:=tIz_parts hT'
  have hlm:l.length≤9223372036854775807:=hl
  obtain ⟨wa,hwa,hba,hXa,hsa⟩:=a_box w (nB k' a' s' n' A l.length cA B ps.length cB)
  obtain ⟨w0,hw0,hb00,hY0,hs0⟩:=a_box wa (nB k' a' s' n' A' l.length cA' B' ps.length cB')
  have hb0:=hba.trans (hb00.mono hba.size)
  have hX:=hXa.below hb00 hXa.lt
  rw [hsa] at hY0
  have hrn:=rnamesB B B' cB cB' ps ps w0 (hB.below hb0) (hB'.below hb0) hp hp
  rw [show (ps==ps)=true by simp] at hrn
  have HN:=Hi hrn
  have HL:=Hi (hL.below hb0);have HS:=Hi (TsIz.below hb0 hS);have HL':=Hi (hL'.below hb0);have HS':=Hi (TsIz.below hb0 hS')
  have HM:=Hi hm
  have IH:=Hi (rsameT m)
  have HX:=Hi hX;have HY:=Hi hY0;have HB0:=Hi hb0;have HW:=Hi hw0;have HWA:=Hi hwa
  obtain ⟨⟨e0,e1,e2,e3,e4,e5⟩,z0,z1,z2,z3,z4,z5⟩:=Blk.c6 hX
  obtain ⟨⟨g0,g1,g2,g3,g4,g5⟩,y0,y1,y2,y3,y4,y5⟩:=Blk.c6 hY0
  clear hT hT' hB hB' hL hS hL' hS' hm hw0 hb0 hX hY0 hs0 hwa hba hXa hsa hb00 hrn hl hp
  go_enter Tryz.func8,Tryz.ntmps8
  go_wp2_with fail
  rw [HWA.out,HW.out]
  refine HN.out.mono ?_
  rintro e w1 ⟨rfl,hb1⟩
  have HB1:=Hi hb1
  have hx1:=HX.out.below hb1 HX.out.lt
  have hy1:=HY.out.below hb1 HY.out.lt
  clear hb1 e0 e1 e2 e3 e4 e5 z0 z1 z2 z3 z4 z5 g0 g1 g2 g3 g4 g5 y0 y1 y2 y3 y4 y5
  obtain ⟨⟨e0,e1,e2,e3,e4,e5⟩,z0,z1,z2,z3,z4,z5⟩:=Blk.c6 hx1
  obtain ⟨⟨g0,g1,g2,g3,g4,g5⟩,y0,y1,y2,y3,y4,y5⟩:=Blk.c6 hy1
  clear hx1 hy1
  go_wp2_with fail
  clear e0 e1 e2 e3 e4 e5 z0 z1 z2 z3 z4 z5 g0 g1 g2 g3 g4 g5 y0 y1 y2 y3 y4 y5
  go_loopw [7] (fun vi wr=>∃ i:Nat,i≤l.length∧vi = .int .i64 (i:Int)∧Hid (Below w0.heap.size w0 wr)) (fun vi _=>l.length - (intOf vi).toNat)
  case atStart=>exact ⟨0,by omega,rfl,HB1⟩
  case round=>
   obtain ⟨i,hi,rfl,HH⟩:=hrel
   have c4:wr.cell? ⟨w.heap.size,4,none⟩=some (.slice A l.length cA):=(HX.out.below HH.out HX.out.lt).cell 4
   have d4:wr.cell? ⟨w.heap.size+1,4,none⟩=some (.slice A' l.length cA'):=(HY.out.below HH.out HY.out.lt).cell 4
   by_cases hlt:i < l.length
   ·obtain ⟨x,hx⟩:∃ x,l[i]?=some x:=⟨_,List.getElem?_eq_getElem hlt⟩
    have hil:(i:Int) < (l.length:Int):=by omega
    obtain ⟨b,o,k3,a3,s3,n3,A3,la3,cA3,B3,lb3,cB3,rfl,hTx,hb3,e0,e1,e2,e3,e4,e5⟩:=partz_at (HL.out.below HH.out) (TsIz.below HH.out HS.out) hx
    obtain ⟨b',o',k4,a4,s4,n4,A4,la4,cA4,B4,lb4,cB4,rfl,hTy,hb4,g0,g1,g2,g3,g4,g5⟩:=partz_at (HL'.out.below HH.out) (TsIz.below HH.out HS'.out) hx
    have hsx:SizeOf.sizeOf x < m:=by have:=size_memz (k:=k') (a:=a') (n:=n') (s:=s') (ps:=ps) hx;have:=HM.out;omega
    have HC:=Hi fun (w2:World) (hb:Below wr.heap.size wr w2)=>IH.out x hsx w2 k3 a3 s3 n3 A3 la3 cA3 B3 lb3 cB3 k4 a4 s4 n4 A4 la4 cA4 B4 lb4 cB4 (TIz.below hb hTx) (TIz.below hb hTy)
    clear hTx hTy hx hsx
    go_wp2_with fail
    go_still_tail 11,(by kernel_rfl)
    change wpList _ _ _ _ _ wr.drew
    have hdr:Below wr.heap.size wr wr.drew:=below_drewN (Below.refl _ _) 1
    obtain ⟨w2,hw2⟩:∃ w2,wr.drew=w2:=⟨_,rfl⟩
    rw [hw2] at hdr ⊢
    have HC2:=Hi (HC.out w2 hdr)
    have HB2:=Hi (HH.out.trans (hdr.mono HH.out.size))
    clear hw2 hdr HC e0 e1 e2 e3 e4 e5 g0 g1 g2 g3 g4 g5
    go_wp2_with fail
    refine (show Calls Tryz.prog 8 #[nzA k3 a3 s3 n3 A3 la3 cA3 B3 lb3 cB3,nzA k4 a4 s4 n4 A4 la4 cA4 B4 lb4 cB4,.bool true] w2 _ from HC2.out).mono ?_
    rintro e w3 ⟨rfl,hb5⟩
    have HB3:=Hi (HB2.out.trans (hb5.mono HB2.out.size))
    clear hb5
    go_wp2_with fail
    go_roundw
    case rel=>exact ⟨i+1,by omega,by go_num,HB3⟩
    case measure=>simp [intOf];omega
   ·obtain rfl:i=l.length:=by omega
    go_wp2_with fail
    go_ret
    exact ⟨rfl,HB0.out.trans (HH.out.mono HB0.out.size)⟩
theorem same_(w:World)(lo lo':Nat)(se pu:List Bs)(ou:List (Bs×Bool))(vs vp vo us up uo:Value)
  (h1:w.ownsRow lo 9 1 vs se.length (se.map strV)) (h2:w.ownsRow lo 9 1 vp pu.length (pu.map strV)) (h3:w.ownsRow lo 44 3 vo ou.length (ou.flatMap laC))
  (g1:w.ownsRow lo' 9 1 us se.length (se.map strV)) (g2:w.ownsRow lo' 9 1 up pu.length (pu.map strV)) (g3:w.ownsRow lo' 44 3 uo ou.length (ou.flatMap laC))
  (l1:se.length≤maxLen) (l2:pu.length≤maxLen) (l3:ou.length≤maxLen) :
  Calls Tryz.prog 9 #[.agg #[vs,vp,vo],.agg #[us,up,uo]] w fun e w'=>e = .returned (.bool true)∧Below w.heap.size w w':=by
 obtain ⟨A1,c1',rfl⟩:=own_sl h1
 obtain ⟨A2,c2',rfl⟩:=own_sl h2
 obtain ⟨A3,c3',rfl⟩:=own_sl h3
 obtain ⟨B1,d1',rfl⟩:=own_sl g1
 obtain ⟨B2,d2',rfl⟩:=own_sl g2
 obtain ⟨B3,d3',rfl⟩:=own_sl g3
 obtain ⟨w1,hw1⟩:∃ w1,w.alloc (.cells #[.slice A1 se.length c1',.slice A2 pu.length c2',.slice A3 ou.length c3'] 29)=w1:=⟨_,rfl⟩
 have hb1:Below w.heap.size w w1:=by rw [←hw1];exact (Below.refl _ _).alloc (Nat.le_refl _) _
 have hs1:w1.heap.size=w.heap.size+1:=by rw [←hw1];simp
 have hX1:Blk w1 w.heap.size 29 #[.slice A1 se.length c1',.slice A2 pu.length c2',.slice A3 ou.length c3']:=by rw [←hw1];exact Blk.new _ _ _
 obtain ⟨w2,hw2⟩:∃ w2,w1.alloc (.cells #[.slice B1 se.length d1',.slice B2 pu.length d2',.slice B3 ou.length d3'] 29)=w2:=⟨_,rfl⟩
 have hb2:Below w1.heap.size w1 w2:=by rw [←hw2];exact (Below.refl _ _).alloc (Nat.le_refl _) _
 have hX2:Blk w2 (w.heap.size+1) 29 #[.slice B1 se.length d1',.slice B2 pu.length d2',.slice B3 ou.length d3']:=by rw [←hw2,←hs1];exact Blk.new _ _ _
 have hb02:=hb1.trans (hb2.mono hb1.size)
 have HS:Hid (∀ wx,Below w2.heap.size w2 wx→Calls Tryz.prog 12 #[.slice A1 se.length c1',.slice B1 se.length d1'] wx fun e w'=>e = .returned (.bool true)∧Below wx.heap.size wx w'):=Hi fun wx hbx=>by
  have hu:=Upd.of_below (hb02.trans (hbx.mono hb02.size)) fun _=>False
  have h:=names_ se se wx _ _ _ _ (own_updV h1 hu fun _ _ h=>h) (own_updV g1 hu fun _ _ h=>h) l1 l1
  rw [show (se==se)=true by simp] at h
  exact h
 have HP:Hid (∀ wx,Below w2.heap.size w2 wx→Calls Tryz.prog 12 #[.slice A2 pu.length c2',.slice B2 pu.length d2'] wx fun e w'=>e = .returned (.bool true)∧Below wx.heap.size wx w'):=Hi fun wx hbx=>by
  have hu:=Upd.of_below (hb02.trans (hbx.mono hb02.size)) fun _=>False
  have h:=names_ pu pu wx _ _ _ _ (own_updV h2 hu fun _ _ h=>h) (own_updV g2 hu fun _ _ h=>h) l2 l2
  rw [show (pu==pu)=true by simp] at h
  exact h
 have HO:Hid (∀ wx,Below w2.heap.size w2 wx→Calls Tryz.prog 16 #[.slice A3 ou.length c3',.slice B3 ou.length d3'] wx fun e w'=>e = .returned (.bool true)∧Below wx.heap.size wx w'):=Hi fun wx hbx=>by
  have hu:=Upd.of_below (hb02.trans (hbx.mono hb02.size)) fun _=>False
  exact labels ou wx _ _ _ _ (own_updV h3 hu fun _ _ h=>h) (own_updV g3 hu fun _ _ h=>h) l3
 have HX1:=Hi (hX1.below hb2 hX1.lt);have HX2:=Hi hX2;have HW1:=Hi hw1;have HW2:=Hi hw2;have HB:=Hi hb02
 have HC1:=Hi (HS.out w2 (Below.refl _ _))
 obtain ⟨c0,c1,c2,f0,f1,f2⟩:=Blk.c3 HX1.out
 obtain ⟨d0,d1,d2,i0,i1,i2⟩:=Blk.c3 HX2.out
 clear h1 h2 h3 g1 g2 g3 l1 l2 l3 hw1 hb1 hs1 hX1 hw2 hb2 hX2 hb02
 go_enter Tryz.func9,Tryz.ntmps9
 go_upto_region 1 with fail
 rw [HW1.out,HW2.out]
 go_wp2_with fail
 refine HC1.out.mono ?_
 rintro e w3 ⟨rfl,hb3⟩
 have HB3:=Hi hb3
 have HC2:=Hi (HP.out w3 hb3)
 clear c0 c1 c2 f0 f1 f2 d0 d1 d2 i0 i1 i2
 obtain ⟨c0,c1,c2,f0,f1,f2⟩:=Blk.c3 (HX1.out.below hb3 HX1.out.lt)
 obtain ⟨d0,d1,d2,i0,i1,i2⟩:=Blk.c3 (HX2.out.below hb3 HX2.out.lt)
 clear hb3
 go_wp2_with fail
 refine HC2.out.mono ?_
 rintro e w4 ⟨rfl,hb4⟩
 have hb24:=HB3.out.trans (hb4.mono HB3.out.size)
 have HB4:=Hi hb24
 have HC3:=Hi (HO.out w4 hb24)
 clear c0 c1 c2 f0 f1 f2 d0 d1 d2 i0 i1 i2
 obtain ⟨c0,c1,c2,f0,f1,f2⟩:=Blk.c3 (HX1.out.below hb24 HX1.out.lt)
 obtain ⟨d0,d1,d2,i0,i1,i2⟩:=Blk.c3 (HX2.out.below hb24 HX2.out.lt)
 clear hb4 hb24
 go_wp2_with fail
 refine HC3.out.mono ?_
 rintro e w5 ⟨rfl,hb5⟩
 have HB5:=Hi (HB.out.trans ((HB4.out.trans (hb5.mono HB4.out.size)).mono HB.out.size))
 clear hb5
 go_wp2_with fail
 go_ret
 exact ⟨rfl,HB5.out⟩
def zeroZ:Tz:=.mk 0 0 [] 0 [] []
theorem zero_in(w:World):TIz w zeroZ (nzC 0 0 [] 0 none 0 0 none 0 0):=by
 unfold zeroZ TIz TIc
 exact ⟨none,0,none,0,rfl,by decide,by decide,Lies.nil _ _,[],Lies.nil _ _,by unfold TsIc;rfl,fun h=>h.elim⟩
def OutN(s:Bs)(z:Tz)(c:St)(pl:Int)(er:Nat):Prop:=
 ((er = 0∧pl = 0)∧(wordsL s).er = 0∧∃ x t r,ProgR (wordsL s).l (.ok [x] (t :: r))∧z=embz x∧ckB z = .ok c)∨(er≠0∧BadN s pl er∧z=zeroZ∧c=init)
theorem outN_one{s:Bs}{z z':Tz}{c c':St}{pl pl':Int}{er er':Nat}(h:OutN s z c pl er)(h':OutN s z' c' pl' er'):z=z'∧c=c'∧pl=pl'∧er=er':=by
 rcases h with ⟨⟨rfl,rfl⟩,he,x,t,r,hp,rfl,hc⟩ | ⟨hne,hb,rfl,rfl⟩ <;> rcases h' with ⟨⟨rfl,rfl⟩,he',x',t',r',hp',rfl,hc'⟩ | ⟨hne',hb',rfl,rfl⟩
 ·obtain rfl:=prog_one hp hp'
  rw [hc] at hc'
  cases hc'
  exact ⟨rfl,rfl,rfl,rfl⟩
 ·rcases hb' with ⟨a,rfl,hb'⟩ | ⟨_,_,x',t',r',hp',hc'⟩
  ·exact (prog_ok_bad he hp hb').elim
  ·obtain rfl:=prog_one hp hp'
   rw [hc] at hc';cases hc'
 ·rcases hb with ⟨a,rfl,hb⟩ | ⟨_,_,x,t,r,hp,hc⟩
  ·exact (prog_ok_bad he' hp' hb).elim
  ·obtain rfl:=prog_one hp hp'
   rw [hc] at hc';cases hc'
 ·rcases hb with ⟨a,rfl,hb⟩ | ⟨he,rfl,x,t,r,hp,hc⟩ <;> rcases hb' with ⟨a',rfl,hb'⟩ | ⟨he',rfl,x',t',r',hp',hc'⟩
  ·obtain ⟨rfl,rfl⟩:=prog_bad hb hb'
   exact ⟨rfl,rfl,rfl,rfl⟩
  ·exact (prog_ok_bad he' hp' hb).elim
  ·exact (prog_ok_bad he hp hb').elim
  ·obtain rfl:=prog_one hp hp'
   rw [hc] at hc';cases hc'
   exact ⟨rfl,rfl,rfl,rfl⟩
def PgmN(s:ByteArray)(w:World)(e:Ending)(w':World):Prop:=
 ∃ (z:Tz) (k a:Int) (sx:Bs) (n:Nat) (A:Option Addr) (la cA:Nat) (B:Option Addr) (lb cB:Nat) (As Ap Ao:Option Addr) (ds dp do_:Nat) (c:St) (pl:Int) (er:Nat),e = .returned (.tuple #[nzA k a sx n A la cA B lb cB,.agg #[.slice As c.se.length ds,.slice Ap c.pu.length dp,.slice Ao c.ou.length do_],.int .i64 pl,.int .i64 (er:Int)]) ∧
  OutN s.data.toList z c pl er∧TIz w' z (nzC k a sx n A la cA B lb cB)∧NaP w.heap.size w' (.slice As c.se.length ds) (.slice Ap c.pu.length dp) (.slice Ao c.ou.length do_) c∧Below w.heap.size w w'
theorem pgmN{s:ByteArray}{w:World}{e:Ending}{w':World}(h:PgmP s w e w'):PgmN s w e w':=by
 rcases h with ⟨k,a,sx,n,A,la,cA,B,lb,cB,x,t,r,vs,vp,vo,c,rfl,h1,h2,h3,hT,hN,hb⟩ | ⟨a,er,rfl,her,hbad,hb⟩
 ·obtain ⟨As,ds,rfl⟩:=own_sl hN.1
  obtain ⟨Ap,dp,rfl⟩:=own_sl hN.2.1
  obtain ⟨Ao,do_,rfl⟩:=own_sl hN.2.2.1
  exact ⟨embz x,k,a,sx,n,A,la,cA,B,lb,cB,As,Ap,Ao,ds,dp,do_,c,0,0,rfl,.inl ⟨⟨rfl,rfl⟩,h1,x,t,r,h2,rfl,h3⟩,tIz_weak (tIz_of hT),hN,hb⟩
 ·exact ⟨zeroZ,0,0,[],0,none,0,0,none,0,0,none,none,none,0,0,0,init,a,er,rfl,.inr ⟨her,hbad,rfl,rfl⟩,zero_in _,⟨World.ownsRow_nil _ _ _ _,World.ownsRow_nil _ _ _ _,World.ownsRow_nil _ _ _ _,Nat.zero_le _,Nat.zero_le _,Nat.zero_le _⟩,hb⟩
theorem NaP.below{lo:Nat}{w w':World}{vs vp vo:Value}{c:St}(h:NaP lo w vs vp vo c)(hb:Below w.heap.size w w'):NaP lo w' vs vp vo c:=by
 have hu:=Upd.of_below hb fun _=>False
 exact ⟨own_updV h.1 hu fun _ _ h=>h,own_updV h.2.1 hu fun _ _ h=>h,own_updV h.2.2.1 hu fun _ _ h=>h,h.2.2.2⟩
theorem walkP(W:World)(s:ByteArray):Calls Tryz.prog 3 #[.string s] W fun e W'=>e = .returned (.bool true)∧Below W.heap.size W W':=by
 have HP:=Hi (pgm s W)
 have HR:Hid (∀ w,Calls Tryz.prog 7 #[.string s] w (PgmP s w)):=Hi fun w=>rpgm s w
 go_enter Tryz.func3,Tryz.ntmps3
 go_wp2_with fail
 refine HP.out.mono ?_
 intro e w1 hp1
 obtain ⟨z,k,a,sx,n,A,la,cA,B,lb,cB,As,Ap,Ao,ds,dp,do_,c,pl,er,rfl,hO,hT,hN,hb1⟩:=pgmN hp1
 obtain ⟨w2,hw2,hb2,hX2,hs2⟩:=a_box w1 (nB k a sx n A la cA B lb cB)
 obtain ⟨w3,hw3⟩:∃ u,w2.alloc (.cells #[.slice As c.se.length ds,.slice Ap c.pu.length dp,.slice Ao c.ou.length do_] 29)=u:=⟨_,rfl⟩
 have hb3:Below w2.heap.size w2 w3:=by rw [←hw3];exact (Below.refl _ _).alloc (Nat.le_refl _) _
 have hY3:Blk w3 (w1.heap.size+1) 29 #[.slice As c.se.length ds,.slice Ap c.pu.length dp,.slice Ao c.ou.length do_]:=by rw [←hw3,←hs2];exact Blk.new _ _ _
 have hb13:=hb2.trans (hb3.mono hb2.size)
 have HW2:=Hi hw2;have HW3:=Hi hw3;have HX3:=Hi (hX2.below hb3 hX2.lt);have HY3:=Hi hY3
 have HB3:=Hi (hb1.trans (hb13.mono hb1.size));have HT3:=Hi (TIz.below hb13 hT);have HN3:=Hi (hN.below hb13);have HO:=Hi hO
 clear hp1 hO hT hN hb1 hw2 hb2 hX2 hs2 hw3 hb3 hY3 hb13 HP
 go_upto_region 2 with fail
 rw [HW2.out,HW3.out]
 go_wp2_with fail
 refine (HR.out w3).mono ?_
 intro e w4 hp4
 obtain ⟨z',k',a',sx',n',A',la',cA',B',lb',cB',As',Ap',Ao',ds',dp',do_',c',pl',er',rfl,hO',hT',hN',hb4⟩:=pgmN hp4
 obtain ⟨rfl,rfl,rfl,rfl⟩:=outN_one HO.out hO'
 obtain ⟨w5,hw5,hb5,hX5,hs5⟩:=a_box w4 (nB k' a' sx' n' A' la' cA' B' lb' cB')
 obtain ⟨w6,hw6⟩:∃ u,w5.alloc (.cells #[.slice As' c.se.length ds',.slice Ap' c.pu.length dp',.slice Ao' c.ou.length do_'] 29)=u:=⟨_,rfl⟩
 have hb6:Below w5.heap.size w5 w6:=by rw [←hw6];exact (Below.refl _ _).alloc (Nat.le_refl _) _
 have hY6:Blk w6 (w4.heap.size+1) 29 #[.slice As' c.se.length ds',.slice Ap' c.pu.length dp',.slice Ao' c.ou.length do_']:=by rw [←hw6,←hs5];exact Blk.new _ _ _
 have hb46:=hb5.trans (hb6.mono hb5.size)
 have hb36:=hb4.trans (hb46.mono hb4.size)
 have HW5:=Hi hw5;have HW6:=Hi hw6;have HX6:=Hi (hX5.below hb6 hX5.lt);have HY6:=Hi hY6
 have HX36:=Hi (HX3.out.below hb36 HX3.out.lt);have HY36:=Hi (HY3.out.below hb36 HY3.out.lt)
 have HB6:=Hi (HB3.out.trans (hb36.mono HB3.out.size))
 have HN6:=Hi (HN3.out.below hb36);have HM6:=Hi (hN'.below hb46)
 have HS6:=Hi (rsameT (SizeOf.sizeOf z+1) z (Nat.lt_succ_self _) w6 k a sx n A la cA B lb cB k' a' sx' n' A' la' cA' B' lb' cB' (TIz.below hb36 HT3.out) (TIz.below hb46 hT'))
 clear hp4 hO' hT' hN' hb4 hw5 hb5 hX5 hs5 hw6 hb6 hY6 hb46 hb36 HR HO
 go_upto_region 3 with fail
 rw [HW5.out,HW6.out]
 obtain ⟨⟨e0,e1,e2,e3,e4,e5⟩,z0,z1,z2,z3,z4,z5⟩:=Blk.c6 HX36.out
 obtain ⟨⟨g0,g1,g2,g3,g4,g5⟩,y0,y1,y2,y3,y4,y5⟩:=Blk.c6 HX6.out
 go_wp2_with fail
 refine (show Calls Tryz.prog 8 #[nzA k a sx n A la cA B lb cB,nzA k' a' sx' n' A' la' cA' B' lb' cB',.bool true] w6 _ from HS6.out).mono ?_
 rintro e w7 ⟨rfl,hb7⟩
 clear e0 e1 e2 e3 e4 e5 z0 z1 z2 z3 z4 z5 g0 g1 g2 g3 g4 g5 y0 y1 y2 y3 y4 y5
 obtain ⟨c0,c1,c2,f0,f1,f2⟩:=Blk.c3 (HY36.out.below hb7 HY36.out.lt)
 obtain ⟨d0,d1,d2,i0,i1,i2⟩:=Blk.c3 (HY6.out.below hb7 HY6.out.lt)
 have hn7:=HN6.out.below hb7;have hm7:=HM6.out.below hb7
 have hbig:∀ {m:Nat},m≤1099511627776→m≤maxLen:=fun h=>by unfold maxLen;omega
 have HSN:=Hi (same_ w7 _ _ c.se c.pu c.ou _ _ _ _ _ _ hn7.1 hn7.2.1 hn7.2.2.1 hm7.1 hm7.2.1 hm7.2.2.1 (hbig hn7.2.2.2.1) (hbig hn7.2.2.2.2.1) (hbig hn7.2.2.2.2.2))
 have HB7:=Hi (HB6.out.trans (hb7.mono HB6.out.size))
 clear hb7 hn7 hm7 hbig
 go_wp2_with fail
 refine HSN.out.mono ?_
 rintro e w8 ⟨rfl,hb8⟩
 have HB8:=Hi (HB7.out.trans (hb8.mono HB7.out.size))
 have HLI:=Hi (lives w8)
 clear hb8 c0 c1 c2 f0 f1 f2 d0 d1 d2 i0 i1 i2
 go_wp2_with fail
 refine HLI.out.mono ?_
 rintro e w9 ⟨rfl,hb9⟩
 have HB9:=Hi (HB8.out.trans (hb9.mono HB8.out.size))
 clear hb9
 go_wp2_with fail
 go_ret
 exact ⟨rfl,HB9.out⟩
end Go.Proofs.YtpoepignpdfleaaGreatDoor.Nm
namespace Go.Proofs.YtpoepignpdfleaaGreatDoor.Sh
open Go Go.ChangeShapes Go.WideShapes Go.ChangeAt Go.RowKit Lx Args Pa
set_option linter.unusedVariables false
set_option linter.unusedSimpArgs false
section
variable {H : Type} {enc : TypeId × Value → H} {w : World} {base : Nat} {spare : Nat → Bool} {held : Bool}
end
end Go.Proofs.YtpoepignpdfleaaGreatDoor.Sh
namespace Go.Proofs.YtpoepignpdfleaaGreatDoor.Nm
open Go.ChangeShapes Go.WideShapes Go.ChangeAt Go.RowKit
set_option linter.unusedVariables false
theorem fit_one{H:Type}{P:Program}{t:TypeId}{ts:List TypeId}{d:DataW H}{ds:List (DataW H)}(h:(DataW.weightsEach P (t :: ts) (d :: ds)).all (·≤reachBytes)=true) :
  (d.weights P t).all (·≤reachBytes)=true∧(DataW.weightsEach P ts ds).all (·≤reachBytes)=true:=by
 simp only [DataW.weightsEach,List.all_append,Bool.and_eq_true] at h
 exact h
theorem witRow{H:Type}{enc:TypeId×Value→H}{C:Checked}{os:Os}{f:FuncId}{fn:Func}{s:OpenSpec}{conds:List PathCond}{apart:Bool}{laid:List (String×DataW Unit)}(modest:Bool)(w0:World)(args:Array Value)(hos:w0.os=os)
  (hsh:(w0.forCall (fun _ _=>0) ⟨#[],args,[]⟩).Shaped C.prog)
  (hok:Input.okWideB C.prog (w0.forCall (fun _ _=>0) ⟨#[],args,[]⟩) f ⟨#[],args,[]⟩=true)
  (hrow:s.preRow enc C.prog fn conds apart laid (w0.forCall (fun _ _=>0) ⟨#[],args,[]⟩).memory args) :
  ∃ (w:World) (tape:Tape) (i:Input),w.os=os∧(w.forCall tape i).Shaped C.prog∧i.vars=[]∧Input.okWide C.prog (w.forCall tape i) .any w.heap.size f i ∧
   s.preRow enc C.prog fn conds apart laid (w.forCall tape i).memory i.args∧({ modest:=modest }:Assume).holds C.prog (lone (Frame.enter C.prog f i.args .normal) [] (w.forCall tape i)):=
 ⟨w0,fun _ _=>0,⟨#[],args,[]⟩,hos,hsh,(Input.okWide_of_okWideB (base:=0) hok).1,(Input.okWide_of_okWideB hok).2,hrow,by
  simp only [Assume.holds]
  exact ⟨by simp,by simp,fun _=>Modest.zero,by simp,by simp⟩⟩
end Go.Proofs.YtpoepignpdfleaaGreatDoor.Nm
