/- DERIVED. EvRC. By an AI agent. -/
import Derived.Test.YtcgibpdjfgjldaaGreatDoorT43
set_option maxRecDepth 100000
set_option maxHeartbeats 8000000
set_option linter.unusedVariables false
set_option linter.unusedSimpArgs false
open Go Go.ChangeShapes Go.WideShapes Go.ChangeAt Go.RowKit
namespace Go.Proofs.YtcgibpdjfgjldaaGreatDoor
namespace Ev
open Lx Args Pa Sh Go.Proofs.YtcgibpdjfgjldaaGreatDoor.Nm WMath Fl
def ConP'(w:World)(r:Option (BitVec 32))(e:Ending)(w':World):Prop:=e = .returned (.tuple #[uV (r.getD 0),.bool r.isSome])/\Below w.heap.size w w'
theorem con_0(a:Int)(s:Bs)(n:Nat)(ps:List Bs):conB (.mk 0 a s n ps [])=some (BitVec.ofNat 32 n):=rfl
theorem con_1(a:Int)(s:Bs)(n:Nat)(ps:List Bs):conB (.mk 1 a s n ps [])=none:=rfl
theorem con_2(a:Int)(s:Bs)(n:Nat)(ps:List Bs)(x:Tz)(hs:s=[126]\/s=[45]):conB (.mk 2 a s n ps [x])=(conB x).map (unB s):=by
 have hf:fitB loN0 2 s [x].length=true:=by rcases hs with rfl | rfl <;> rfl
 have h1:strB loN0 (.mk 2 a s n ps [x])=strB loN0 x:=by
  conv=>lhs;unfold strB
  rw [if_pos hf,q0M];cases strB loN0 x <;> rfl
 have hw:worB loN0 (.mk 2 a s n ps [x])=unB s (worB loN0 x):=by rw [q2F,if_neg V2,if_neg V2,if_pos rfl,q1I]
 unfold conB;rw [h1,hw];cases strB loN0 x <;> rfl
theorem q8X(k a:Int)(s:Bs)(n:Nat)(ps:List Bs)(x y:Tz)(f:BitVec 32->BitVec 32->BitVec 32)(hf:fitB loN0 k s [x,y].length=true)(hw:worB loN0 (.mk k a s n ps [x,y])=f (worB loN0 x) (worB loN0 y)) :
  conB (.mk k a s n ps [x,y])=(match conB x,conB y with | some u,some v=>some (f u v) | _,_=>none):=by
 have h1:strB loN0 (.mk k a s n ps [x,y])=match strB loN0 x with | some e=>some e | none=>strB loN0 y:=by
  conv=>lhs;unfold strB
  rw [if_pos hf,q0M,q0M];cases strB loN0 x with
  | some e=>rfl
  | none=>cases strB loN0 y <;> rfl
 unfold conB;rw [h1,hw];cases strB loN0 x with
 | some e=>rfl
 | none=>cases strB loN0 y <;> rfl
theorem con_3(a:Int)(s:Bs)(n:Nat)(ps:List Bs)(x y:Tz)(hs:s=[124]\/s=[94]\/s=[38]\/s=[43]\/s=[45]):conB (.mk 3 a s n ps [x,y])=(match conB x,conB y with | some u,some v=>some (boB s u v) | _,_=>none):=
 q8X 3 a s n ps x y (boB s) (by rcases hs with rfl | rfl | rfl | rfl | rfl <;> rfl) (by rw [q2F,if_neg V2,if_neg V2,if_neg V2,if_pos rfl,q1I,q30])
theorem con_4(a:Int)(s:Bs)(n:Nat)(ps:List Bs)(x y:Tz)(hs:s=[60,60]\/s=[62,62]\/s=[60,60,60]):conB (.mk 4 a s n ps [x,y])=(match conB x,conB y with | some u,some v=>some (shB s u v) | _,_=>none):=
 q8X 4 a s n ps x y (shB s) (by rcases hs with rfl | rfl | rfl <;> rfl) (by rw [q2F,if_neg V2,if_neg V2,if_neg V2,if_neg V2,q1I,q30])
theorem con_5(a:Int)(s:Bs)(n:Nat)(ps:List Bs)(l:List Tz):conB (.mk 5 a s n ps l)=none:=rfl
theorem notl(x:BitVec 32):4294967295 - (x.toNat:Int)=((~~~x).toNat:Int):=not_sub x
theorem rconst{w0:World}:∀ (m:Nat) (z:Tz),SizeOf.sizeOf z < m->mdE z->∀ (w:World) (k a:Int) (s:Bs) (n:Nat) (A:Option Addr) (la cA:Nat) (B:Option Addr) (lb cB:Nat),Below w0.heap.size w0 w->TrV w0 z k a s n A la cA B lb cB ->
  Calls Tryz.prog 22 #[nzA k a s n A la cA B lb cB,.slice none 0 0] w (ConP' w (conB z))
 | 0,z,h=>absurd h (Nat.not_lt_zero _)
 | m+1,.mk k1 a1 s1 n1 ps l,hm=>fun hd w k a s n A la cA B lb cB hb hT=>by
  obtain ⟨rfl,rfl,rfl,rfl,rfl,rfl,hP,hs,hn,-,-,-,-⟩:=hT.parts;obtain ⟨w1,hw1,hb1,hX1,hs1⟩:=q05 w (nB k a s n A l.length cA B ps.length cB);have IH:=Hi (rconst (w0:=w0) m);have HB1:=Hi hb1;have HW1:=Hi hw1;have HX1:=Hi hX1;have HP:=Hi hP;have HB0:=Hi (hb.trans (hb1.mono hb.size));have HM:=Hi hm;unfold mdE at hd;obtain ⟨_,hds,hc⟩:=hd;have HDS:=Hi hds;have HN32:=Hi hn;have hgl:=hX1.lt;unfold ConP';obtain ⟨res,hres⟩:∃ res,conB (.mk k a s n ps l)=res:=⟨_,rfl⟩;have HRES:=Hi hres;rw [hres];obtain ⟨⟨e0,e1,e2,e3,e4,e5⟩,z0,z1,z2,z3,z4,z5⟩:=Blk.c6 hX1;clear hb hT hP hb1 hw1 hm hs1 hds hn hres hX1;go_enter Tryz.func22,Tryz.ntmps22;go_upto_region 1 with fail
  rw [HW1.out];rcases hc with ⟨rfl,rfl⟩ | ⟨rfl,rfl⟩ | ⟨rfl,hsg,hl⟩ | ⟨rfl,hsg,hl⟩ | ⟨rfl,hsg,hl⟩ | ⟨rfl,hl⟩
  ·rw [con_0] at HRES;go_wp2_with fail
   go_ret2
   refine ⟨?_,HB1.out⟩;rw [<-HRES.out];show Ending.returned (.tuple #[.int .u32 (n:Int),.bool true]) = .returned (.tuple #[.int .u32 (((BitVec.ofNat 32 n).toNat:Nat):Int),.bool true]);rw [BitVec.toNat_ofNat,Nat.mod_eq_of_lt HN32.out]
  ·rw [con_1] at HRES;go_wp2_with fail
   go_loopw [6] (fun vr wr=>vr = .int .i64 (-1)/\wr=w1) (fun _ _=>0)
   case atStart=>exact ⟨rfl,rfl⟩
   case round=>
    obtain ⟨rfl,rfl⟩:=hrel;go_wp2_with fail
    go_ret2
    exact ⟨V04,HB1.out⟩
  ·obtain ⟨x,rfl⟩:=q3Y hl;obtain ⟨bb,o,k',a',s',n',A',la',cA',B',lb',cB',hA,hTy,hbl,hcel⟩:=HP.out.cells (i:=0) (y:=x) rfl;subst hA;simp only [Nat.zero_mul,Nat.add_zero] at hcel;obtain ⟨g0,g1,g2,g3,g4,g5⟩:=hcel w1 HB0.out;have hsy:SizeOf.sizeOf x < m:=V3w;have hC:=IH.out x hsy (q0b HDS.out (i:=0) rfl) w1 k' a' s' n' A' la' cA' B' lb' cB' HB0.out hTy;unfold ConP' at hC;rw [con_2 _ _ _ _ _ hsg] at HRES;generalize conB x=r at hC HRES;have HC:=Hi hC;have hbl2:bb < w1.heap.size:=Nat.lt_of_lt_of_le hbl HB0.out.size;have HX1':=Hi (show Blk w1 w.heap.size 26 (nB 2 a s n (some ⟨bb,o,none⟩) 1 cA B ps.length cB) from HX1.out);have e4:w1.cell? ⟨w.heap.size,4,none⟩=some (.slice (some ⟨bb,o,none⟩) 1 cA):=e4;clear hC hcel hTy hsy hl;rcases hsg with rfl | rfl
   ·go_wp2_with fail
    refine (show Calls Tryz.prog 22 #[nzA k' a' s' n' A' la' cA' B' lb' cB',.slice none 0 0] w1 _ from HC.out).mono ?_;rintro e w5 ⟨rfl,hb5⟩;have HB5:=Hi (HB1.out.trans (hb5.mono HB1.out.size));have hX5:=HX1'.out.below hb5 HX1'.out.lt;clear e0 e1 e2 e3 e4 e5 z0 z1 z2 z3 z4 z5 g0 g1 g2 g3 g4 g5;obtain ⟨⟨e0,e1,e2,e3,e4,e5⟩,z0,z1,z2,z3,z4,z5⟩:=Blk.c6 hX5;have hgl5:=hX5.lt;clear hb5 hX5;cases r with
    | none=>
     go_wp2_with fail
     go_ret2
     exact ⟨V04,HB5.out⟩
    | some x2=>
     have hx2:=x2.isLt;have HNV:=Hi (notl x2);go_wp2_with fail
     go_ret2
     refine ⟨?_,HB5.out⟩;rw [<-HRES.out];show Ending.returned (.tuple #[.int .u32 _,.bool true]) = .returned (.tuple #[.int .u32 (((~~~x2).toNat:Nat):Int),.bool true]);rw [<-HNV.out]
   ·go_wp2_with fail
    refine (show Calls Tryz.prog 22 #[nzA k' a' s' n' A' la' cA' B' lb' cB',.slice none 0 0] w1 _ from HC.out).mono ?_;rintro e w5 ⟨rfl,hb5⟩;have HB5:=Hi (HB1.out.trans (hb5.mono HB1.out.size));have hX5:=HX1'.out.below hb5 HX1'.out.lt;clear e0 e1 e2 e3 e4 e5 z0 z1 z2 z3 z4 z5 g0 g1 g2 g3 g4 g5;obtain ⟨⟨e0,e1,e2,e3,e4,e5⟩,z0,z1,z2,z3,z4,z5⟩:=Blk.c6 hX5;have hgl5:=hX5.lt;clear hb5 hX5;cases r with
    | none=>
     go_wp2_with fail
     go_ret2
     exact ⟨V04,HB5.out⟩
    | some x2=>
     have hx2:=x2.isLt;have HNV:=Hi (neg_u x2);go_wp2_with fail
     go_ret2
     refine ⟨?_,HB5.out⟩;rw [<-HRES.out];show Ending.returned (.tuple #[.int .u32 _,.bool true]) = .returned (.tuple #[.int .u32 (((-x2).toNat:Nat):Int),.bool true])
     first | (rw [<-HNV.out];done) | (rw [<-HNV.out];rfl)
  ·obtain ⟨x,y,rfl⟩:=q1s hl;rw [con_3 _ _ _ _ _ _ hsg] at HRES;have HTW:=Hi fun v x y=>two3 v s x y hsg
   obtain ⟨bb,o,k',a',s',n',A',la',cA',B',lb',cB',hA,hTy,hbl,hcel⟩:=HP.out.cells (i:=0) (y:=x) rfl;subst hA;simp only [Nat.zero_mul,Nat.add_zero] at hcel;obtain ⟨bb2,o2,k2,a2,s2,n2,A2,la2,cA2,B2,lb2,cB2,hA2,hTy2,hbl2,hcel2⟩:=HP.out.cells (i:=1) (y:=y) rfl;simp only [Option.some.injEq,Addr.mk.injEq,and_true] at hA2;obtain ⟨rfl,rfl⟩:=hA2;simp only [Nat.one_mul,Nat.add_assoc,Nat.reduceAdd] at hcel2;obtain ⟨g0,g1,g2,g3,g4,g5⟩:=hcel w1 HB0.out;have hsy:SizeOf.sizeOf x < m:=by have:=q0m (k:=3) (a:=a) (n:=n) (s:=s) (ps:=ps) (l:=[x,y]) (i:=0) (x:=x) rfl;have:=HM.out;omega
   have hsy2:SizeOf.sizeOf y < m:=by have:=q0m (k:=3) (a:=a) (n:=n) (s:=s) (ps:=ps) (l:=[x,y]) (i:=1) (x:=y) rfl;have:=HM.out;omega
   have hC:=IH.out x hsy (q0b HDS.out (i:=0) rfl) w1 k' a' s' n' A' la' cA' B' lb' cB' HB0.out hTy;have HCY:=Hi fun v (hv:Below w0.heap.size w0 v)=>IH.out y hsy2 (q0b HDS.out (i:=1) rfl) v k2 a2 s2 n2 A2 la2 cA2 B2 lb2 cB2 hv hTy2
   unfold ConP' at hC HCY;generalize conB x=r at hC HRES;generalize conB y=r2 at HCY HRES;have HC:=Hi hC;have HX2:=Hi hcel2;have HLB:=Hi hbl;have hbl2:bb < w1.heap.size:=Nat.lt_of_lt_of_le hbl HB0.out.size;have HX1':=Hi (show Blk w1 w.heap.size 26 (nB 3 a s n (some ⟨bb,o,none⟩) 2 cA B ps.length cB) from HX1.out);have e4:w1.cell? ⟨w.heap.size,4,none⟩=some (.slice (some ⟨bb,o,none⟩) 2 cA):=e4;clear hC hcel hcel2 hTy hTy2 hsy hsy2 hl hbl;clear hsg;go_wp2_with fail
   refine (show Calls Tryz.prog 22 #[nzA k' a' s' n' A' la' cA' B' lb' cB',.slice none 0 0] w1 _ from HC.out).mono ?_;rintro e w5 ⟨rfl,hb5⟩;have hB05:=HB0.out.trans (hb5.mono HB0.out.size);have HB5:=Hi (HB1.out.trans (hb5.mono HB1.out.size));have HB05:=Hi hB05;have hX5:=HX1'.out.below hb5 HX1'.out.lt;have HX5:=Hi hX5;clear e0 e1 e2 e3 e4 e5 z0 z1 z2 z3 z4 z5 g0 g1 g2 g3 g4 g5;obtain ⟨⟨e0,e1,e2,e3,e4,e5⟩,z0,z1,z2,z3,z4,z5⟩:=Blk.c6 hX5;have hgl5:=hX5.lt;obtain ⟨g0,g1,g2,g3,g4,g5⟩:=HX2.out w5 hB05;have hbl5:bb < w5.heap.size:=Nat.lt_of_lt_of_le HLB.out hB05.size;have HC2:=Hi (HCY.out w5 hB05);clear hb5 hX5 hB05;go_wp2_with fail
   refine (show Calls Tryz.prog 22 #[nzA k2 a2 s2 n2 A2 la2 cA2 B2 lb2 cB2,.slice none 0 0] w5 _ from HC2.out).mono ?_;rintro e w6 ⟨rfl,hb6⟩;have HB6:=Hi (HB5.out.trans (hb6.mono HB5.out.size));have hX6:=HX5.out.below hb6 HX5.out.lt;clear e0 e1 e2 e3 e4 e5 z0 z1 z2 z3 z4 z5 g0 g1 g2 g3 g4 g5;obtain ⟨⟨e0,e1,e2,e3,e4,e5⟩,z0,z1,z2,z3,z4,z5⟩:=Blk.c6 hX6;have hgl6:=hX6.lt;clear hb6 hX6;cases r with
   | none=>
    exact V0I
   | some x2=>
    cases r2 with
    | none=>
     exact V0I
    | some y2=>
     have HT6:=Hi (HTW.out w6 x2 y2);unfold TwP at HT6;go_wp2_with fail
     refine (show Calls Tryz.prog 47 #[.int .i64 3,.string ⟨s.toArray⟩,uV x2,uV y2] w6 _ from HT6.out).mono ?_;exact V2P
  ·obtain ⟨x,y,rfl⟩:=q1s hl;rw [con_4 _ _ _ _ _ _ hsg] at HRES;have HTW:=Hi fun v x y=>two4 v s x y hsg
   obtain ⟨bb,o,k',a',s',n',A',la',cA',B',lb',cB',hA,hTy,hbl,hcel⟩:=HP.out.cells (i:=0) (y:=x) rfl;subst hA;simp only [Nat.zero_mul,Nat.add_zero] at hcel;obtain ⟨bb2,o2,k2,a2,s2,n2,A2,la2,cA2,B2,lb2,cB2,hA2,hTy2,hbl2,hcel2⟩:=HP.out.cells (i:=1) (y:=y) rfl;simp only [Option.some.injEq,Addr.mk.injEq,and_true] at hA2;obtain ⟨rfl,rfl⟩:=hA2;simp only [Nat.one_mul,Nat.add_assoc,Nat.reduceAdd] at hcel2;obtain ⟨g0,g1,g2,g3,g4,g5⟩:=hcel w1 HB0.out;have hsy:SizeOf.sizeOf x < m:=by have:=q0m (k:=4) (a:=a) (n:=n) (s:=s) (ps:=ps) (l:=[x,y]) (i:=0) (x:=x) rfl;have:=HM.out;omega
   have hsy2:SizeOf.sizeOf y < m:=by have:=q0m (k:=4) (a:=a) (n:=n) (s:=s) (ps:=ps) (l:=[x,y]) (i:=1) (x:=y) rfl;have:=HM.out;omega
   have hC:=IH.out x hsy (q0b HDS.out (i:=0) rfl) w1 k' a' s' n' A' la' cA' B' lb' cB' HB0.out hTy;have HCY:=Hi fun v (hv:Below w0.heap.size w0 v)=>IH.out y hsy2 (q0b HDS.out (i:=1) rfl) v k2 a2 s2 n2 A2 la2 cA2 B2 lb2 cB2 hv hTy2
   unfold ConP' at hC HCY;generalize conB x=r at hC HRES;generalize conB y=r2 at HCY HRES;have HC:=Hi hC;have HX2:=Hi hcel2;have HLB:=Hi hbl;have hbl2:bb < w1.heap.size:=Nat.lt_of_lt_of_le hbl HB0.out.size;have HX1':=Hi (show Blk w1 w.heap.size 26 (nB 4 a s n (some ⟨bb,o,none⟩) 2 cA B ps.length cB) from HX1.out);have e4:w1.cell? ⟨w.heap.size,4,none⟩=some (.slice (some ⟨bb,o,none⟩) 2 cA):=e4;clear hC hcel hcel2 hTy hTy2 hsy hsy2 hl hbl;clear hsg;go_wp2_with fail
   refine (show Calls Tryz.prog 22 #[nzA k' a' s' n' A' la' cA' B' lb' cB',.slice none 0 0] w1 _ from HC.out).mono ?_;rintro e w5 ⟨rfl,hb5⟩;have hB05:=HB0.out.trans (hb5.mono HB0.out.size);have HB5:=Hi (HB1.out.trans (hb5.mono HB1.out.size));have HB05:=Hi hB05;have hX5:=HX1'.out.below hb5 HX1'.out.lt;have HX5:=Hi hX5;clear e0 e1 e2 e3 e4 e5 z0 z1 z2 z3 z4 z5 g0 g1 g2 g3 g4 g5;obtain ⟨⟨e0,e1,e2,e3,e4,e5⟩,z0,z1,z2,z3,z4,z5⟩:=Blk.c6 hX5;have hgl5:=hX5.lt;obtain ⟨g0,g1,g2,g3,g4,g5⟩:=HX2.out w5 hB05;have hbl5:bb < w5.heap.size:=Nat.lt_of_lt_of_le HLB.out hB05.size;have HC2:=Hi (HCY.out w5 hB05);clear hb5 hX5 hB05;go_wp2_with fail
   refine (show Calls Tryz.prog 22 #[nzA k2 a2 s2 n2 A2 la2 cA2 B2 lb2 cB2,.slice none 0 0] w5 _ from HC2.out).mono ?_;rintro e w6 ⟨rfl,hb6⟩;have HB6:=Hi (HB5.out.trans (hb6.mono HB5.out.size));have hX6:=HX5.out.below hb6 HX5.out.lt;clear e0 e1 e2 e3 e4 e5 z0 z1 z2 z3 z4 z5 g0 g1 g2 g3 g4 g5;obtain ⟨⟨e0,e1,e2,e3,e4,e5⟩,z0,z1,z2,z3,z4,z5⟩:=Blk.c6 hX6;have hgl6:=hX6.lt;clear hb6 hX6;cases r with
   | none=>
    exact V0I
   | some x2=>
    cases r2 with
    | none=>
     exact V0I
    | some y2=>
     have HT6:=Hi (HTW.out w6 x2 y2);unfold TwP at HT6;go_wp2_with fail
     refine (show Calls Tryz.prog 47 #[.int .i64 4,.string ⟨s.toArray⟩,uV x2,uV y2] w6 _ from HT6.out).mono ?_;exact V2P
  ·rw [con_5] at HRES;go_wp2_with fail
   go_ret2
   exact ⟨V04,HB1.out⟩
end Ev
end Go.Proofs.YtcgibpdjfgjldaaGreatDoor
