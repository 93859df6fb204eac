/- DERIVED. EvCan. By an AI agent. -/
import Derived.Test.YtcgibpdjfgjldaaGreatDoorT18
set_option maxRecDepth 100000
set_option maxHeartbeats 8000000
set_option linter.unusedVariables false
set_option linter.unusedSimpArgs false
open Go Go.ChangeShapes Go.WideShapes Go.ChangeAt Go.RowKit
namespace Go.Proofs.YtcgibpdjfgjldaaGreatDoor
namespace Ev
open Lx Args Pa Sh Go.Proofs.YtcgibpdjfgjldaaGreatDoor.Nm WMath Fl
abbrev exC:Value:=.func (.func 33) #[] #[]
abbrev eX:Value:=.agg #[exC,.map none]
theorem boxes3(w:World)(ex cs ms:Array Value):∃ w1,((w.alloc (.cells ex 75)).alloc (.cells cs 26)).alloc (.cells ms 77)=w1/\Below w.heap.size w w1/\w1.heap.size=w.heap.size+3 /\
  Blk w1 w.heap.size 75 ex/\Blk w1 (w.heap.size+1) 26 cs/\Blk w1 (w.heap.size+2) 77 ms:=by
 refine ⟨_,rfl,(((Below.refl _ _).alloc (Nat.le_refl _) _).alloc V3 _).alloc V4 _,V3,((Blk.new w _ _).alloc _).alloc _,?_,?_⟩
 ·have h:=(Blk.new (w.alloc (.cells ex 75)) 26 cs).alloc (.cells ms 77);rw [World.size_alloc] at h;exact h
 ·have h:=Blk.new ((w.alloc (.cells ex 75)).alloc (.cells cs 26)) 77 ms;rw [World.size_alloc,World.size_alloc] at h;exact h
theorem canp{w0 w1:World}{kb q g0:Nat}{kn:Kn}(hX:Blk w1 g0 75 #[exC,.map none])(hM:Blk w1 (g0+2) 77 #[.map (some kb)])(hb:Below w0.heap.size w0 w1)(hMp:MpU w1 kb q kn)(y:Tz)
  (IH:∀ (w:World) (k a:Int) (s:Bs) (n:Nat) (A:Option Addr) (la cA:Nat) (B:Option Addr) (lb cB:Nat),Below w0.heap.size w0 w->MpU w kb q kn->TrV w0 y k a s n A la cA B lb cB->Calls Tryz.prog 36 #[eX,nzA k a s n A la cA B lb cB,.map (some kb)] w (TellP w (canB kn y)))
  (v:World) (hv:Below w1.heap.size w1 v) (k a:Int) (s:Bs) (n:Nat) (A:Option Addr) (la cA:Nat) (B:Option Addr) (lb cB:Nat) (hT:TrV w0 y k a s n A la cA B lb cB) :
  Calls Tryz.prog 78 #[nzA k a s n A la cA B lb cB,.pointer (some ⟨g0,0,none⟩),.pointer (some ⟨g0+2,0,none⟩)] v (TellP v (!canB kn y)):=by
 obtain ⟨v1,hv1,hb1,hX1,hs1⟩:=q05 v (nB k a s n A la cA B lb cB);have hwv:=hv.trans (hb1.mono hv.size);have hY:=hX.below hwv hX.lt;have hZ:=hM.below hwv hM.lt;have HC:=Hi (IH v1 k a s n A la cA B lb cB (hb.trans (hwv.mono hb.size)) (hMp.upd (X:=fun _=>False) (Upd.of_below hwv fun _=>False) id) hT);obtain ⟨⟨e0,e1,e2,e3,e4,e5⟩,z0,z1,z2,z3,z4,z5⟩:=Blk.c6 hX1;obtain ⟨y0,y1,x0,x1⟩:=Blk.c2 hY;have m0:=hZ.cell 0;simp only [List.getElem?_toArray,List.getElem?_cons_zero] at m0;have hgl:=hX1.lt;have hyl:=hY.lt;have hzl:=hZ.lt;have HB1:=Hi hb1;have HW1:=Hi hv1;unfold TellP at HC ⊢;clear IH hT hX1 hY hZ hwv hb hv hX hM hMp hv1 hb1 hs1;generalize canB kn y=r at HC ⊢;go_enter Tryz.func78,Tryz.ntmps78;go_upto_region 1 with fail
 rw [HW1.out];go_wp2_with fail
 refine (show Calls Tryz.prog 36 #[eX,nzA k a s n A la cA B lb cB,.map (some kb)] v1 _ from HC.out).mono ?_;rintro e w2 ⟨rfl,hb2⟩;have HB2:=Hi (HB1.out.trans (hb2.mono HB1.out.size));clear hb2;go_wp2_with fail
 go_ret;exact ⟨rfl,HB2.out⟩
theorem cindexF{w0 wb:World}(hb:Below w0.heap.size w0 wb){A:Option Addr}{c:Nat}{l:List Tz}(hP:Pts w0 A c l)(p1 p2:Value)(p:Tz->Bool)
  (HC:∀ (i:Nat) (y:Tz),l[i]?=some y->∀ v,Below wb.heap.size wb v->∀ (k a:Int) (s:Bs) (n:Nat) (A:Option Addr) (la cA:Nat) (B:Option Addr) (lb cB:Nat),TrV w0 y k a s n A la cA B lb cB->Calls Tryz.prog 78 #[nzA k a s n A la cA B lb cB,p1,p2] v (TellP v (p y)))
  (w:World) (hw:Below wb.heap.size wb w) :
  Calls Tryz.prog 107 #[.slice A l.length c,.func (.func 78) #[] #[p1,p2]] w fun e w'=>∃ r:Int,e = .returned (.int .i64 r)/\l.any p=decide (0<=r)/\Below w.heap.size w w':=by
 have HP:=Hi hP;have HB:=Hi hb;have HCC:=Hi HC;have HW:=Hi hw;have hlm:l.length<=9223372036854775807:=Nat.le_trans hP.le hP.cap;have hen:=enters_of Tryz.func78 V1 rfl;clear hP hb HC hw;go_enter Tryz.func107,Tryz.ntmps107;go_wp2_with fail
 go_loopw [8] (fun vi wr=>∃ i:Nat,i<=l.length/\vi = .int .i64 (i:Int)/\Hid (Below w.heap.size w wr)/\Hid (∀ j y,j < i->l[j]?=some y->p y=false)) (fun vi _=>l.length - (intOf vi).toNat)
 case atStart=>exact ⟨0,V0,rfl,Hi (Below.refl _ _),Hi fun j y hj=>absurd hj V0⟩
 case round=>
  obtain ⟨i,hi,rfl,HR,HQ⟩:=hrel;by_cases hlt:i < l.length
  ·have hil:(i:Int) < (l.length:Int):=by omega
   obtain ⟨y,hy⟩:∃ y,l[i]?=some y:=⟨_,List.getElem?_eq_getElem hlt⟩;have hwb:=HW.out.trans (HR.out.mono HW.out.size);have hb0:=HB.out.trans (hwb.mono HB.out.size);obtain ⟨bb,o,k',a',s',n',A',la',cA',B',lb',cB',hA,hTy,hbl,g0',g1,g2,g3,g4,g5⟩:=HP.out.at_ hb0 hy;subst hA;have HCL:=Hi (HCC.out i y hy wr hwb k' a' s' n' A' la' cA' B' lb' cB' hTy);have hbl2:bb < wr.heap.size:=Nat.lt_of_lt_of_le hbl hb0.size;have HY:=Hi hy;obtain ⟨r,hr⟩:∃ r,p y=r:=⟨_,rfl⟩;have HPR:=Hi hr;rw [hr] at HCL;clear hTy hbl hwb hb0 hy hr;go_wp2_with fail
   refine (show Calls Tryz.prog 78 #[nzA k' a' s' n' A' la' cA' B' lb' cB',p1,p2] wr _ from HCL.out).mono ?_;rintro e w4 ⟨rfl,hb4⟩;have HB4:=Hi (HR.out.trans (hb4.mono HR.out.size));clear hb4 g0' g1 g2 g3 g4 g5;cases r with
   | true=>
    have HANY:=Hi (show l.any p=true from List.any_eq_true.2 ⟨y,List.mem_of_getElem? HY.out,HPR.out⟩);go_wp2_with fail
    go_ret;exact ⟨_,rfl,by rw [HANY.out];simp,HB4.out⟩
   | false=>
    have HN:=Hi (show ∀ j z,j < i+1->l[j]?=some z->p z=false from fun j z hj hz=>by
     by_cases h:j < i
     ·exact HQ.out j z h hz
     ·obtain rfl:j=i:=by omega
      rw [HY.out] at hz;obtain rfl:=Option.some.inj hz;exact HPR.out)
    go_wp2_with fail
    go_roundw
    case rel=>exact ⟨i+1,V0,V7,HB4,HN⟩
    case measure=>simp [intOf];omega
  ·have HANY:=Hi (show l.any p=false from by
    rw [List.any_eq_false];intro y hy;obtain ⟨j,hj⟩:=List.getElem?_of_mem hy;have hjl:=(List.getElem?_eq_some_iff.1 hj).1;rw [HQ.out j y V0 hj];decide)
   go_wp2_with fail
   go_ret;exact ⟨_,rfl,by rw [HANY.out];simp,HR.out⟩
theorem ccontF{w0 wb:World}(hb:Below w0.heap.size w0 wb){A:Option Addr}{c:Nat}{l:List Tz}(hP:Pts w0 A c l)(p1 p2:Value)(p:Tz->Bool)
  (HC:∀ (i:Nat) (y:Tz),l[i]?=some y->∀ v,Below wb.heap.size wb v->∀ (k a:Int) (s:Bs) (n:Nat) (A:Option Addr) (la cA:Nat) (B:Option Addr) (lb cB:Nat),TrV w0 y k a s n A la cA B lb cB->Calls Tryz.prog 78 #[nzA k a s n A la cA B lb cB,p1,p2] v (TellP v (p y)))
  (w:World) (hw:Below wb.heap.size wb w) :
  Calls Tryz.prog 77 #[.slice A l.length c,.func (.func 78) #[] #[p1,p2]] w (TellP w (l.any p)):=by
 have HI:=Hi (cindexF hb hP p1 p2 p HC w hw);unfold TellP;clear hP hb HC hw;generalize l.any p=res at HI ⊢;go_enter Tryz.func77,Tryz.ntmps77;go_wp2_with fail
 refine HI.out.mono ?_;rintro e w1 ⟨r,rfl,hr,hb⟩;subst hr;have HB:=Hi hb;clear hb;go_wp2_with fail
 go_ret;exact ⟨rfl,HB.out⟩
theorem q48(kn:Kn):∀ l,(!(l.any fun y=>!canB kn y))=canBs kn l
 | []=>by unfold canBs;rfl
 | x :: l=>by
  rw [q08,<-q48 kn l,List.any_cons];cases canB kn x <;> rfl
theorem can{w0:World}{kb q:Nat}{kn:Kn}:∀ (m:Nat) (z:Tz),SizeOf.sizeOf z < m->mdE z->∀ (w:World) (k a:Int) (s:Bs) (n:Nat) (A:Option Addr) (la cA:Nat) (B:Option Addr) (lb cB:Nat),Below w0.heap.size w0 w->MpU w kb q kn->TrV w0 z k a s n A la cA B lb cB ->
  Calls Tryz.prog 36 #[eX,nzA k a s n A la cA B lb cB,.map (some kb)] w (TellP w (canB kn z))
 | 0,z,h=>absurd h (Nat.not_lt_zero _)
 | m+1,.mk k1 a1 s1 n1 ps l,hm=>fun hd w k a s n A la cA B lb cB hb hM hT=>by
  obtain ⟨rfl,rfl,rfl,rfl,rfl,rfl,hP,hs,hn,-,-,-,-⟩:=hT.parts;obtain ⟨w1,hw1,hb1,hs1,hE1,hX1,hK1⟩:=boxes3 w #[exC,.map none] (nB k a s n A l.length cA B ps.length cB) #[.map (some kb)];have hM1:=hM.upd (X:=fun _=>False) (Upd.of_below hb1 fun _=>False) id;have hb01:=hb.trans (hb1.mono hb.size);unfold mdE at hd;obtain ⟨_,hds,hc⟩:=hd;have HCF:=Hi (ccontF hb01 hP (.pointer (some ⟨w.heap.size,0,none⟩)) (.pointer (some ⟨w.heap.size+2,0,none⟩)) (fun y=>!canB kn y) fun i y hy v hv=>
   canp hE1 hK1 hb01 hM1 y (can m y V47 (q0b hds hy)) v hv)
  have HB1:=Hi hb1;have HW1:=Hi hw1;have HE1:=Hi hE1;have HX1:=Hi hX1;have HK1:=Hi hK1;have HP:=Hi hP;have HB0:=Hi hb01;obtain ⟨⟨e0,e1,e2,e3,e4,e5⟩,z0,z1,z2,z3,z4,z5⟩:=Blk.c6 hX1;obtain ⟨y0,y1,x0,x1⟩:=Blk.c2 hE1;have m0:=hK1.cell 0;simp only [List.getElem?_toArray,List.getElem?_cons_zero] at m0;have hgl:=hX1.lt;have hyl:=hE1.lt;have hzl:=hK1.lt;have hlook:=q7R hM1 hs;obtain ⟨res,hres⟩:∃ res,canB kn (.mk k a s n ps l)=res:=⟨_,rfl⟩;rw [hres];rw [q3p,<-q48] at hres;have HRES:=Hi hres;have HHC:=Hi hc;generalize (l.any fun y=>!canB kn y)=an at HCF HRES;unfold TellP at HCF ⊢;clear hb hM hT hP hb1 hw1 hE1 hX1 hK1 hM1 hb01 hs1 hs hn hds hc hres hm;go_enter Tryz.func36,Tryz.ntmps36;go_upto_region 1 with fail
  rw [HW1.out];by_cases hk1:k = 1
  ·subst hk1;have HR:=Hi (show ((kn s).isSome && !an)=res from V0m);clear HRES HHC;generalize (kn s).getD 0=u1 at hlook;generalize (kn s).isSome=u2 at hlook HR;cases u2 with
   | false=>
    go_wp2_with fail
    go_ret;exact ⟨VM,HB1.out⟩
   | true=>
    exact V2q
  clear hlook;by_cases hk4:k = 4
  ·subst hk4;obtain ⟨x,y,rfl⟩:∃ x y,l=[x,y]:=by
    rcases HHC.out with ⟨h,_⟩ | ⟨h,_⟩ | ⟨h,_⟩ | ⟨h,_⟩ | ⟨_,_,h⟩ | ⟨h,_⟩
    ·cases h
    ·cases h
    ·cases h
    ·cases h
    ·exact q1s h
    ·cases h
   have HR:=Hi (show ((conB y).isSome && !an)=res by rw [<-HRES.out,if_neg V2,if_pos rfl];rfl);obtain ⟨bb,o,k2,a2,s2,n2,A2,la2,cA2,B2,lb2,cB2,hA2,hTy2,hbl2,hcel2⟩:=HP.out.cells (i:=1) (y:=y) rfl;subst hA2;have HAT:=Hi fun v (hv:Below w0.heap.size w0 v)=>atN (L:=2) (c:=cA) v hv V2 V2 hbl2 hcel2
   have HCE:=Hi fun v (hv:Below w0.heap.size w0 v)=>constE y v k2 a2 s2 n2 A2 la2 cA2 B2 lb2 cB2 hv hTy2
   unfold ConP at HCE;generalize conB y=cy at HCE HR;have HX1':=Hi (show Blk w1 (w.heap.size+1) 26 (nB 4 a s n (some ⟨bb,o,none⟩) 2 cA B ps.length cB) from HX1.out);have HCF':=Hi (show ∀ (v:World),Below w1.heap.size w1 v->Calls Tryz.prog 77 #[.slice (some ⟨bb,o,none⟩) 2 cA,.func (.func 78) #[] #[.pointer (some ⟨w.heap.size,0,none⟩),.pointer (some ⟨w.heap.size+2,0,none⟩)]] v fun e w'=>e = .returned (.bool an)/\Below v.heap.size v w' from HCF.out);have hen:=enters_of Tryz.func33 V1 rfl;clear HRES HHC hTy2 hbl2 hcel2 HCF HX1;go_wp2_with fail
   have hdr:Below w1.heap.size w1 w1.drew:=Below.drew (Below.refl _ _);obtain ⟨wd,hwd⟩:∃ v,w1.drew=v:=⟨_,rfl⟩;rw [hwd] at hdr;have HXd:=Hi (HX1'.out.below hdr HX1'.out.lt);have HEd:=Hi (HE1.out.below hdr HE1.out.lt);have HKd:=Hi (HK1.out.below hdr HK1.out.lt);have HBd:=Hi (HB1.out.trans (hdr.mono HB1.out.size));have HB0d:=Hi (HB0.out.trans (hdr.mono HB0.out.size));have H1d:=Hi hdr;clear hdr e0 e1 e2 e3 e4 e5 z0 z1 z2 z3 z4 z5 hgl y0 y1 x0 x1 m0 hyl hzl;have hZ0:Below wd.heap.size wd wd:=Below.refl _ _;refine HT.wp_region (Z:=fun w'=>Below wd.heap.size wd w') (S:=fun _=>True) (st:=[]) V1 ?_;rw [hwd];clear hwd;refine HT.k 0 rfl Vx hZ0 ?_;refine HT.k 1 rfl Vx hZ0 ?_;refine HT.k 2 rfl V8 hZ0 ?_;refine HT.k 3 rfl V8 hZ0 ?_;refine HT.one (i:=4) V1 rfl (fun K hK=>?_);go_simp;refine (show Calls Tryz.prog 76 #[.slice (some ⟨bb,o,none⟩) 2 cA,.int .i64 1] wd _ from HAT.out wd HB0d.out).mono ?_;rintro e w5 ⟨rfl,hb5⟩;(try dsimp only);refine hK.out _ _ hb5 trivial ?_;clear hK K;(try simp only [HT.pS]);refine HT.one (i:=5) V1 rfl (fun K hK=>?_);go_simp;refine (show Calls Tryz.prog 33 #[nzA k2 a2 s2 n2 A2 la2 cA2 B2 lb2 cB2] w5 _ from HCE.out w5 (HB0d.out.trans (hb5.mono HB0d.out.size))).mono ?_;rintro e w6 ⟨rfl,hb6⟩;have hz6:=hb5.trans (hb6.mono hb5.size);(try dsimp only);refine hK.out _ _ hz6 trivial ?_;clear hK K;(try simp only [HT.pS]);refine HT.m 6 hz6 ?_;refine HT.m 7 hz6 ?_;refine HT.m 8 hz6 ?_;refine HT.m 9 hz6 ?_;refine HT.m 10 hz6 ?_;refine HT.done V1 ?_;have h16:=H1d.out.trans (hz6.mono H1d.out.size);have hX6:=HX1'.out.below h16 HX1'.out.lt;have hE6:=HE1.out.below h16 HE1.out.lt;have hK6:=HK1.out.below h16 HK1.out.lt;obtain ⟨⟨e0,e1,e2,e3,e4,e5⟩,z0,z1,z2,z3,z4,z5⟩:=Blk.c6 hX6;obtain ⟨y0,y1,x0,x1⟩:=Blk.c2 hE6;have m0:=hK6.cell 0;simp only [List.getElem?_toArray,List.getElem?_cons_zero] at m0;have hgl:=hX6.lt;have hyl:=hE6.lt;have hzl:=hK6.lt;have H16:=Hi h16;have HB6:=Hi (HB1.out.trans (h16.mono HB1.out.size));clear hZ0 hb5 hz6 hb6 hX6 hE6 hK6 h16;cases cy with
   | none=>
    go_wp2_with fail
    go_ret;exact ⟨VM,HB6.out⟩
   | some u=>
    go_wp2_with fail
    refine (show Calls Tryz.prog 77 #[.slice (some ⟨bb,o,none⟩) 2 cA,.func (.func 78) #[] #[.pointer (some ⟨w.heap.size,0,none⟩),.pointer (some ⟨w.heap.size+2,0,none⟩)]] w6 _ from HCF'.out w6 H16.out).mono ?_;rintro e w9 ⟨rfl,hb9⟩;have HB9:=Hi (HB6.out.trans (hb9.mono HB6.out.size));clear hb9;go_wp2_with fail
    go_ret;exact ⟨VM,HB9.out⟩
  by_cases hk5:k = 5
  ·subst hk5;have HR:=Hi (show ((decide (s=[115,101,108]) && decide (l.length = 3)) && !an)=res by have h:=HRES.out;rw [if_neg V2,if_neg V2,if_pos rfl] at h;exact h);clear HRES HHC;by_cases hsel:s=[115,101,108]
   ·subst hsel;by_cases hl3:l.length = 3
    ·have i3:((l.length:Int) != 3)=false:=by simp;omega
     have HR2:=Hi (show (!an)=res by rw [<-HR.out,hl3];rfl);clear HR hl3;have HR:=HR2;clear HR2;exact V2q
    ·have i3:((l.length:Int) != 3)=true:=by simp;omega
     have HR2:=Hi (show false=res by rw [<-HR.out,decide_eq_false hl3];simp);exact V42
   ·have i3:(s != [115,101,108])=true:=by simpa using hsel
    have HR2:=Hi (show false=res by rw [<-HR.out,decide_eq_false hsel];rfl);exact V42
  have HR:=Hi (show (!an)=res by rw [<-HRES.out,if_neg hk1,if_neg hk4,if_neg hk5,Bool.true_and]);have i1:(k==1)=false:=V4;have i4:(k==4)=false:=V4;have i5:(k==5)=false:=V4;clear HRES HHC hk1 hk4 hk5;go_wp2_with fail
  refine (show Calls Tryz.prog 77 #[.slice A l.length cA,.func (.func 78) #[] #[.pointer (some ⟨w.heap.size,0,none⟩),.pointer (some ⟨w.heap.size+2,0,none⟩)]] w1 _ from HCF.out w1 (Below.refl _ _)).mono ?_;rintro e w9 ⟨rfl,hb9⟩;have HB9:=Hi (HB1.out.trans (hb9.mono HB1.out.size));clear hb9;go_wp2_with fail
  go_ret;exact ⟨VM,HB9.out⟩
end Ev
end Go.Proofs.YtcgibpdjfgjldaaGreatDoor
