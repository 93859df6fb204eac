/- DERIVED. EvRC, EvMa, EvMp, EvCo, EvCan. By an AI agent. -/
import Derived.Test.YtcgibpdjfgjldaaGreatDoorU15
set_option maxRecDepth 100000
set_option maxHeartbeats 8000000
set_option linter.unusedVariables false
set_option linter.unusedSimpArgs false
open Go Go.ChangeShapes Go.WideShapes Go.ChangeAt Go.RowKit
namespace Go.Proofs.YtcgibpdjfgjldaaGreatDoor
namespace Ev
open Lx Args Pa Sh Go.Proofs.YtcgibpdjfgjldaaGreatDoor.Nm WMath Fl
def ConP'(w:World)(r:Option (BitVec 32))(e:Ending)(w':World):Prop:=e = .returned (.tuple #[uV (r.getD 0),.bool r.isSome])/\Below w.heap.size w w'
theorem con_0(a:Int)(s:Bs)(n:Nat)(ps:List Bs):conB (.mk 0 a s n ps [])=some (BitVec.ofNat 32 n):=rfl
theorem con_1(a:Int)(s:Bs)(n:Nat)(ps:List Bs):conB (.mk 1 a s n ps [])=none:=rfl
theorem con_2(a:Int)(s:Bs)(n:Nat)(ps:List Bs)(x:Tz)(hs:s=[126]\/s=[45]):conB (.mk 2 a s n ps [x])=(conB x).map (unB s):=by
 have hf:fitB loN0 2 s [x].length=true:=by rcases hs with rfl | rfl <;> rfl
 have h1:strB loN0 (.mk 2 a s n ps [x])=strB loN0 x:=by
  conv=>lhs;unfold strB
  rw [if_pos hf,q0O];cases strB loN0 x <;> rfl
 have hw:worB loN0 (.mk 2 a s n ps [x])=unB s (worB loN0 x):=by rw [q2J,if_neg V2,if_neg V2,if_pos rfl,q1K]
 unfold conB;rw [h1,hw];cases strB loN0 x <;> rfl
theorem q8J(k a:Int)(s:Bs)(n:Nat)(ps:List Bs)(x y:Tz)(f:BitVec 32->BitVec 32->BitVec 32)(hf:fitB loN0 k s [x,y].length=true)(hw:worB loN0 (.mk k a s n ps [x,y])=f (worB loN0 x) (worB loN0 y)) :
  conB (.mk k a s n ps [x,y])=(match conB x,conB y with | some u,some v=>some (f u v) | _,_=>none):=by
 have h1:strB loN0 (.mk k a s n ps [x,y])=match strB loN0 x with | some e=>some e | none=>strB loN0 y:=by
  conv=>lhs;unfold strB
  rw [if_pos hf,q0O,q0O];cases strB loN0 x with
  | some e=>rfl
  | none=>cases strB loN0 y <;> rfl
 unfold conB;rw [h1,hw];cases strB loN0 x with
 | some e=>rfl
 | none=>cases strB loN0 y <;> rfl
theorem con_3(a:Int)(s:Bs)(n:Nat)(ps:List Bs)(x y:Tz)(hs:s=[124]\/s=[94]\/s=[38]\/s=[43]\/s=[45]):conB (.mk 3 a s n ps [x,y])=(match conB x,conB y with | some u,some v=>some (boB s u v) | _,_=>none):=
 q8J 3 a s n ps x y (boB s) (by rcases hs with rfl | rfl | rfl | rfl | rfl <;> rfl) (by rw [q2J,if_neg V2,if_neg V2,if_neg V2,if_pos rfl,q1K,q34])
theorem con_4(a:Int)(s:Bs)(n:Nat)(ps:List Bs)(x y:Tz)(hs:s=[60,60]\/s=[62,62]\/s=[60,60,60]):conB (.mk 4 a s n ps [x,y])=(match conB x,conB y with | some u,some v=>some (shB s u v) | _,_=>none):=
 q8J 4 a s n ps x y (shB s) (by rcases hs with rfl | rfl | rfl <;> rfl) (by rw [q2J,if_neg V2,if_neg V2,if_neg V2,if_neg V2,q1K,q34])
theorem con_5(a:Int)(s:Bs)(n:Nat)(ps:List Bs)(l:List Tz):conB (.mk 5 a s n ps l)=none:=rfl
theorem notl(x:BitVec 32):4294967295 - (x.toNat:Int)=((~~~x).toNat:Int):=not_sub x
theorem negl(x:BitVec 32):(0 - (x.toNat:Int)) % 4294967296=((-x).toNat:Int):=by
 have hx:=x.isLt;rw [BitVec.toNat_neg];omega
theorem rconst{w0:World}:∀ (m:Nat) (z:Tz),SizeOf.sizeOf z < m->mdE z->∀ (w:World) (k a:Int) (s:Bs) (n:Nat) (A:Option Addr) (la cA:Nat) (B:Option Addr) (lb cB:Nat),Below w0.heap.size w0 w->TrV w0 z k a s n A la cA B lb cB ->
  Calls Tryz.prog 22 #[nzA k a s n A la cA B lb cB,.slice none 0 0] w (ConP' w (conB z))
 | 0,z,h=>absurd h (Nat.not_lt_zero _)
 | m+1,.mk k1 a1 s1 n1 ps l,hm=>fun hd w k a s n A la cA B lb cB hb hT=>by
  obtain ⟨rfl,rfl,rfl,rfl,rfl,rfl,hP,hs,hn,-,-,-,-⟩:=hT.parts;obtain ⟨w1,hw1,hb1,hX1,hs1⟩:=q05 w (nB k a s n A l.length cA B ps.length cB);have IH:=Hi (rconst (w0:=w0) m);have HB1:=Hi hb1;have HW1:=Hi hw1;have HX1:=Hi hX1;have HP:=Hi hP;have HB0:=Hi (hb.trans (hb1.mono hb.size));have HM:=Hi hm;unfold mdE at hd;obtain ⟨_,hds,hc⟩:=hd;have HDS:=Hi hds;have HN32:=Hi hn;have hgl:=hX1.lt;unfold ConP';obtain ⟨res,hres⟩:∃ res,conB (.mk k a s n ps l)=res:=⟨_,rfl⟩;have HRES:=Hi hres;rw [hres];obtain ⟨⟨e0,e1,e2,e3,e4,e5⟩,z0,z1,z2,z3,z4,z5⟩:=Blk.c6 hX1;clear hb hT hP hb1 hw1 hm hs1 hds hn hres hX1;go_enter Tryz.func22,Tryz.ntmps22;go_upto_region 1 with fail
  rw [HW1.out];rcases hc with ⟨rfl,rfl⟩ | ⟨rfl,rfl⟩ | ⟨rfl,hsg,hl⟩ | ⟨rfl,hsg,hl⟩ | ⟨rfl,hsg,hl⟩ | ⟨rfl,hl⟩
  ·rw [con_0] at HRES;go_wp2_with fail
   go_ret2
   refine ⟨?_,HB1.out⟩;rw [<-HRES.out];show Ending.returned (.tuple #[.int .u32 (n:Int),.bool true]) = .returned (.tuple #[.int .u32 (((BitVec.ofNat 32 n).toNat:Nat):Int),.bool true]);rw [BitVec.toNat_ofNat,Nat.mod_eq_of_lt HN32.out]
  ·rw [con_1] at HRES;go_wp2_with fail
   go_loopw [6] (fun vr wr=>vr = .int .i64 (-1)/\wr=w1) (fun _ _=>0)
   case atStart=>exact ⟨rfl,rfl⟩
   case round=>
    obtain ⟨rfl,rfl⟩:=hrel;go_wp2_with fail
    go_ret2
    exact ⟨V04,HB1.out⟩
  ·obtain ⟨x,rfl⟩:=q43 hl;obtain ⟨bb,o,k',a',s',n',A',la',cA',B',lb',cB',hA,hTy,hbl,hcel⟩:=HP.out.cells (i:=0) (y:=x) rfl;subst hA;simp only [Nat.zero_mul,Nat.add_zero] at hcel;obtain ⟨g0,g1,g2,g3,g4,g5⟩:=hcel w1 HB0.out;have hsy:SizeOf.sizeOf x < m:=V3L;have hC:=IH.out x hsy (q0a HDS.out (i:=0) rfl) w1 k' a' s' n' A' la' cA' B' lb' cB' HB0.out hTy;unfold ConP' at hC;rw [con_2 _ _ _ _ _ hsg] at HRES;generalize conB x=r at hC HRES;have HC:=Hi hC;have hbl2:bb < w1.heap.size:=Nat.lt_of_lt_of_le hbl HB0.out.size;have HX1':=Hi (show Blk w1 w.heap.size 26 (nB 2 a s n (some ⟨bb,o,none⟩) 1 cA B ps.length cB) from HX1.out);have e4:w1.cell? ⟨w.heap.size,4,none⟩=some (.slice (some ⟨bb,o,none⟩) 1 cA):=e4;clear hC hcel hTy hsy hl;rcases hsg with rfl | rfl
   ·go_wp2_with fail
    refine (show Calls Tryz.prog 22 #[nzA k' a' s' n' A' la' cA' B' lb' cB',.slice none 0 0] w1 _ from HC.out).mono ?_;rintro e w5 ⟨rfl,hb5⟩;have HB5:=Hi (HB1.out.trans (hb5.mono HB1.out.size));have hX5:=HX1'.out.below hb5 HX1'.out.lt;clear e0 e1 e2 e3 e4 e5 z0 z1 z2 z3 z4 z5 g0 g1 g2 g3 g4 g5;obtain ⟨⟨e0,e1,e2,e3,e4,e5⟩,z0,z1,z2,z3,z4,z5⟩:=Blk.c6 hX5;have hgl5:=hX5.lt;clear hb5 hX5;cases r with
    | none=>
     go_wp2_with fail
     go_ret2
     exact ⟨V04,HB5.out⟩
    | some x2=>
     have hx2:=x2.isLt;have HNV:=Hi (notl x2);go_wp2_with fail
     go_ret2
     refine ⟨?_,HB5.out⟩;rw [<-HRES.out];show Ending.returned (.tuple #[.int .u32 _,.bool true]) = .returned (.tuple #[.int .u32 (((~~~x2).toNat:Nat):Int),.bool true]);rw [<-HNV.out]
   ·go_wp2_with fail
    refine (show Calls Tryz.prog 22 #[nzA k' a' s' n' A' la' cA' B' lb' cB',.slice none 0 0] w1 _ from HC.out).mono ?_;rintro e w5 ⟨rfl,hb5⟩;have HB5:=Hi (HB1.out.trans (hb5.mono HB1.out.size));have hX5:=HX1'.out.below hb5 HX1'.out.lt;clear e0 e1 e2 e3 e4 e5 z0 z1 z2 z3 z4 z5 g0 g1 g2 g3 g4 g5;obtain ⟨⟨e0,e1,e2,e3,e4,e5⟩,z0,z1,z2,z3,z4,z5⟩:=Blk.c6 hX5;have hgl5:=hX5.lt;clear hb5 hX5;cases r with
    | none=>
     go_wp2_with fail
     go_ret2
     exact ⟨V04,HB5.out⟩
    | some x2=>
     have hx2:=x2.isLt;have HNV:=Hi (neg_u x2);go_wp2_with fail
     go_ret2
     refine ⟨?_,HB5.out⟩;rw [<-HRES.out];show Ending.returned (.tuple #[.int .u32 _,.bool true]) = .returned (.tuple #[.int .u32 (((-x2).toNat:Nat):Int),.bool true])
     first | (rw [<-HNV.out];done) | (rw [<-HNV.out];rfl)
  ·obtain ⟨x,y,rfl⟩:=q1u hl;rw [con_3 _ _ _ _ _ _ hsg] at HRES;have HTW:=Hi fun v x y=>two3 v s x y hsg
   obtain ⟨bb,o,k',a',s',n',A',la',cA',B',lb',cB',hA,hTy,hbl,hcel⟩:=HP.out.cells (i:=0) (y:=x) rfl;subst hA;simp only [Nat.zero_mul,Nat.add_zero] at hcel;obtain ⟨bb2,o2,k2,a2,s2,n2,A2,la2,cA2,B2,lb2,cB2,hA2,hTy2,hbl2,hcel2⟩:=HP.out.cells (i:=1) (y:=y) rfl;simp only [Option.some.injEq,Addr.mk.injEq,and_true] at hA2;obtain ⟨rfl,rfl⟩:=hA2;simp only [Nat.one_mul,Nat.add_assoc,Nat.reduceAdd] at hcel2;obtain ⟨g0,g1,g2,g3,g4,g5⟩:=hcel w1 HB0.out;have hsy:SizeOf.sizeOf x < m:=by have:=q0n (k:=3) (a:=a) (n:=n) (s:=s) (ps:=ps) (l:=[x,y]) (i:=0) (x:=x) rfl;have:=HM.out;omega
   have hsy2:SizeOf.sizeOf y < m:=by have:=q0n (k:=3) (a:=a) (n:=n) (s:=s) (ps:=ps) (l:=[x,y]) (i:=1) (x:=y) rfl;have:=HM.out;omega
   have hC:=IH.out x hsy (q0a HDS.out (i:=0) rfl) w1 k' a' s' n' A' la' cA' B' lb' cB' HB0.out hTy;have HCY:=Hi fun v (hv:Below w0.heap.size w0 v)=>IH.out y hsy2 (q0a HDS.out (i:=1) rfl) v k2 a2 s2 n2 A2 la2 cA2 B2 lb2 cB2 hv hTy2
   unfold ConP' at hC HCY;generalize conB x=r at hC HRES;generalize conB y=r2 at HCY HRES;have HC:=Hi hC;have HX2:=Hi hcel2;have HLB:=Hi hbl;have hbl2:bb < w1.heap.size:=Nat.lt_of_lt_of_le hbl HB0.out.size;have HX1':=Hi (show Blk w1 w.heap.size 26 (nB 3 a s n (some ⟨bb,o,none⟩) 2 cA B ps.length cB) from HX1.out);have e4:w1.cell? ⟨w.heap.size,4,none⟩=some (.slice (some ⟨bb,o,none⟩) 2 cA):=e4;clear hC hcel hcel2 hTy hTy2 hsy hsy2 hl hbl;clear hsg;go_wp2_with fail
   refine (show Calls Tryz.prog 22 #[nzA k' a' s' n' A' la' cA' B' lb' cB',.slice none 0 0] w1 _ from HC.out).mono ?_;rintro e w5 ⟨rfl,hb5⟩;have hB05:=HB0.out.trans (hb5.mono HB0.out.size);have HB5:=Hi (HB1.out.trans (hb5.mono HB1.out.size));have HB05:=Hi hB05;have hX5:=HX1'.out.below hb5 HX1'.out.lt;have HX5:=Hi hX5;clear e0 e1 e2 e3 e4 e5 z0 z1 z2 z3 z4 z5 g0 g1 g2 g3 g4 g5;obtain ⟨⟨e0,e1,e2,e3,e4,e5⟩,z0,z1,z2,z3,z4,z5⟩:=Blk.c6 hX5;have hgl5:=hX5.lt;obtain ⟨g0,g1,g2,g3,g4,g5⟩:=HX2.out w5 hB05;have hbl5:bb < w5.heap.size:=Nat.lt_of_lt_of_le HLB.out hB05.size;have HC2:=Hi (HCY.out w5 hB05);clear hb5 hX5 hB05;go_wp2_with fail
   refine (show Calls Tryz.prog 22 #[nzA k2 a2 s2 n2 A2 la2 cA2 B2 lb2 cB2,.slice none 0 0] w5 _ from HC2.out).mono ?_;rintro e w6 ⟨rfl,hb6⟩;have HB6:=Hi (HB5.out.trans (hb6.mono HB5.out.size));have hX6:=HX5.out.below hb6 HX5.out.lt;clear e0 e1 e2 e3 e4 e5 z0 z1 z2 z3 z4 z5 g0 g1 g2 g3 g4 g5;obtain ⟨⟨e0,e1,e2,e3,e4,e5⟩,z0,z1,z2,z3,z4,z5⟩:=Blk.c6 hX6;have hgl6:=hX6.lt;clear hb6 hX6;cases r with
   | none=>
    exact V0J
   | some x2=>
    cases r2 with
    | none=>
     exact V0J
    | some y2=>
     have HT6:=Hi (HTW.out w6 x2 y2);unfold TwP at HT6;go_wp2_with fail
     refine (show Calls Tryz.prog 47 #[.int .i64 3,.string ⟨s.toArray⟩,uV x2,uV y2] w6 _ from HT6.out).mono ?_;exact V31
  ·obtain ⟨x,y,rfl⟩:=q1u hl;rw [con_4 _ _ _ _ _ _ hsg] at HRES;have HTW:=Hi fun v x y=>two4 v s x y hsg
   obtain ⟨bb,o,k',a',s',n',A',la',cA',B',lb',cB',hA,hTy,hbl,hcel⟩:=HP.out.cells (i:=0) (y:=x) rfl;subst hA;simp only [Nat.zero_mul,Nat.add_zero] at hcel;obtain ⟨bb2,o2,k2,a2,s2,n2,A2,la2,cA2,B2,lb2,cB2,hA2,hTy2,hbl2,hcel2⟩:=HP.out.cells (i:=1) (y:=y) rfl;simp only [Option.some.injEq,Addr.mk.injEq,and_true] at hA2;obtain ⟨rfl,rfl⟩:=hA2;simp only [Nat.one_mul,Nat.add_assoc,Nat.reduceAdd] at hcel2;obtain ⟨g0,g1,g2,g3,g4,g5⟩:=hcel w1 HB0.out;have hsy:SizeOf.sizeOf x < m:=by have:=q0n (k:=4) (a:=a) (n:=n) (s:=s) (ps:=ps) (l:=[x,y]) (i:=0) (x:=x) rfl;have:=HM.out;omega
   have hsy2:SizeOf.sizeOf y < m:=by have:=q0n (k:=4) (a:=a) (n:=n) (s:=s) (ps:=ps) (l:=[x,y]) (i:=1) (x:=y) rfl;have:=HM.out;omega
   have hC:=IH.out x hsy (q0a HDS.out (i:=0) rfl) w1 k' a' s' n' A' la' cA' B' lb' cB' HB0.out hTy;have HCY:=Hi fun v (hv:Below w0.heap.size w0 v)=>IH.out y hsy2 (q0a HDS.out (i:=1) rfl) v k2 a2 s2 n2 A2 la2 cA2 B2 lb2 cB2 hv hTy2
   unfold ConP' at hC HCY;generalize conB x=r at hC HRES;generalize conB y=r2 at HCY HRES;have HC:=Hi hC;have HX2:=Hi hcel2;have HLB:=Hi hbl;have hbl2:bb < w1.heap.size:=Nat.lt_of_lt_of_le hbl HB0.out.size;have HX1':=Hi (show Blk w1 w.heap.size 26 (nB 4 a s n (some ⟨bb,o,none⟩) 2 cA B ps.length cB) from HX1.out);have e4:w1.cell? ⟨w.heap.size,4,none⟩=some (.slice (some ⟨bb,o,none⟩) 2 cA):=e4;clear hC hcel hcel2 hTy hTy2 hsy hsy2 hl hbl;clear hsg;go_wp2_with fail
   refine (show Calls Tryz.prog 22 #[nzA k' a' s' n' A' la' cA' B' lb' cB',.slice none 0 0] w1 _ from HC.out).mono ?_;rintro e w5 ⟨rfl,hb5⟩;have hB05:=HB0.out.trans (hb5.mono HB0.out.size);have HB5:=Hi (HB1.out.trans (hb5.mono HB1.out.size));have HB05:=Hi hB05;have hX5:=HX1'.out.below hb5 HX1'.out.lt;have HX5:=Hi hX5;clear e0 e1 e2 e3 e4 e5 z0 z1 z2 z3 z4 z5 g0 g1 g2 g3 g4 g5;obtain ⟨⟨e0,e1,e2,e3,e4,e5⟩,z0,z1,z2,z3,z4,z5⟩:=Blk.c6 hX5;have hgl5:=hX5.lt;obtain ⟨g0,g1,g2,g3,g4,g5⟩:=HX2.out w5 hB05;have hbl5:bb < w5.heap.size:=Nat.lt_of_lt_of_le HLB.out hB05.size;have HC2:=Hi (HCY.out w5 hB05);clear hb5 hX5 hB05;go_wp2_with fail
   refine (show Calls Tryz.prog 22 #[nzA k2 a2 s2 n2 A2 la2 cA2 B2 lb2 cB2,.slice none 0 0] w5 _ from HC2.out).mono ?_;rintro e w6 ⟨rfl,hb6⟩;have HB6:=Hi (HB5.out.trans (hb6.mono HB5.out.size));have hX6:=HX5.out.below hb6 HX5.out.lt;clear e0 e1 e2 e3 e4 e5 z0 z1 z2 z3 z4 z5 g0 g1 g2 g3 g4 g5;obtain ⟨⟨e0,e1,e2,e3,e4,e5⟩,z0,z1,z2,z3,z4,z5⟩:=Blk.c6 hX6;have hgl6:=hX6.lt;clear hb6 hX6;cases r with
   | none=>
    exact V0J
   | some x2=>
    cases r2 with
    | none=>
     exact V0J
    | some y2=>
     have HT6:=Hi (HTW.out w6 x2 y2);unfold TwP at HT6;go_wp2_with fail
     refine (show Calls Tryz.prog 47 #[.int .i64 4,.string ⟨s.toArray⟩,uV x2,uV y2] w6 _ from HT6.out).mono ?_;exact V31
  ·rw [con_5] at HRES;go_wp2_with fail
   go_ret2
   exact ⟨V04,HB1.out⟩
abbrev Rw:=List (Bs×BitVec 32)
def lkR:Rw->Kn
 | []=>fun _=>none
 | p :: r=>fun t=>match lkR r t with | some x=>some x | none=>if t=p.1 then some p.2 else none
theorem q4O(t:Bs):∀ (a b:Rw),lkR (a ++ b) t=match lkR b t with | some x=>some x | none=>lkR a t
 | [],b=>by
  show lkR b t=_;cases lkR b t <;> rfl
 | p :: a,b=>by
  show (match lkR (a ++ b) t with | some x=>some x | none=>if t=p.1 then some p.2 else none)=_;rw [q4O t a b];show _=match lkR b t with | some x=>some x | none=>(match lkR a t with | some x=>some x | none=>if t=p.1 then some p.2 else none)
  cases lkR b t <;> rfl
theorem q81(r:Rw)(s:Bs)(x:BitVec 32):lkR (r ++ [(s,x)])=putN (lkR r) s x:=by
 funext t
 rw [q4O];show (match (if t=s then some x else none) with | some x=>some x | none=>lkR r t)=if t=s then some x else lkR r t
 by_cases h:t=s
 ·rw [if_pos h,if_pos h]
 ·rw [if_neg h,if_neg h]
theorem q82{r:Rw}{i:Nat}{p:Bs×BitVec 32}(h:r[i]?=some p)(t:Bs)(h0:lkR (r.drop (i+1)) t=none):lkR (r.drop i) t=if t=p.1 then some p.2 else none:=by
 rw [drop_at h];show (match lkR (r.drop (i+1)) t with | some x=>some x | none=>if t=p.1 then some p.2 else none)=_;rw [h0]
theorem q4P{r:Rw}(i:Nat)(t:Bs){x:BitVec 32}(h:lkR (r.drop i) t=some x):lkR r t=some x:=by
 conv=>lhs;rw [<-List.take_append_drop i r]
 rw [q4O,h]
def RmL(w:World)(g:Nat)(r:Rw):Prop:=∃ A c A2 c2,Blk w g 83 #[.slice A r.length c,.slice A2 r.length c2,.slice none 0 0,.slice none 0 0,.slice none 0 0,.slice none 0 0]/\Lies w A (r.map fun p=>strV p.1)/\Lies w A2 (r.map fun p=>uV p.2)/\r.length<=100
theorem RmL.below{w w':World}{g:Nat}{r:Rw}(h:RmL w g r)(hb:Below w.heap.size w w'):RmL w' g r:=by
 obtain ⟨A,c,A2,c2,h1,h2,h3,h4⟩:=h;exact ⟨A,c,A2,c2,h1.below hb h1.lt,h2.below hb,h3.below hb,h4⟩
theorem RmL.lt{w:World}{g:Nat}{r:Rw}(h:RmL w g r):g < w.heap.size:=by
 obtain ⟨A,c,A2,c2,h1,_⟩:=h;exact h1.lt
def AtP(r:Rw)(s:Bs)(w:World)(e:Ending)(w':World):Prop:=w'=w/\((e = .returned (.int .i64 (-1))/\lkR r s=none)\/(∃ (i:Nat) (x:BitVec 32),e = .returned (.int .i64 (i:Int))/\i < r.length/\r[i]?=some (s,x)/\lkR r s=some x))
theorem rat(w:World)(g:Nat)(r:Rw)(h:RmL w g r)(s:Bs):Calls Tryz.prog 38 #[.pointer (some ⟨g,0,none⟩),.string ⟨s.toArray⟩,.int .i64 0] w (AtP r s w):=by
 obtain ⟨A,c,A2,c2,hX,hA,-,hl⟩:=h;obtain ⟨⟨e0,e1,e2,e3,e4,e5⟩,z0,z1,z2,z3,z4,z5⟩:=Blk.c6 hX;have hgl:=hX.lt;have HA:=Hi hA;clear hX hA;unfold AtP;go_enter Tryz.func38,Tryz.ntmps38;go_wp2_with fail
 go_loopw [7] (fun vi wr=>wr=w/\∃ j:Nat,j<=r.length/\vi = .int .i64 ((r.length:Int) - 1 - j)/\Hid (lkR (r.drop (r.length - j)) s=none)) (fun vi _=>(intOf vi+1).toNat)
 case atStart=>exact ⟨rfl,0,V0,V3,Hi (by rw [Nat.sub_zero,List.drop_length];rfl)⟩
 case round=>
  obtain ⟨rfl,j,hj,rfl,HQ⟩:=hrel;by_cases hlt:j < r.length
  ·obtain ⟨p,hp⟩:∃ p,r[r.length - 1 - j]?=some p:=⟨_,List.getElem?_eq_getElem V0⟩;obtain ⟨s1,x1⟩:=p;have f1:(r.map fun p=>strV p.1)[r.length - 1 - j]?=some (.string ⟨s1.toArray⟩):=Vs;obtain ⟨b,o,rfl,_,hc1⟩:=HA.out.at_ f1;have k1:=hc1 _ _ f1;have hge:decide ((r.length:Int) - 1 - (j:Int) ≥ 0)=true:=V4;have hnat:((r.length:Int) - 1 - (j:Int)).toNat=r.length - 1 - j:=V0;have hq:=HQ.out;rw [show r.length - j=r.length - 1 - j+1 from V0] at hq;have hd:=q82 hp s hq;by_cases hs:s1=s
   ·subst hs;have HR:=Hi (show lkR r s1=some x1 from q4P _ _ (hd.trans (if_pos rfl)));have HP:=Hi hp;have HI:=Hi (show ((r.length - 1 - j:Nat):Int)=(r.length:Int) - 1 - j from V0);clear hc1 f1 hp hq hd;go_wp2_with fail
    go_ret;exact ⟨rfl,.inr ⟨r.length - 1 - j,x1,by rw [HI.out];rfl,V0,HP.out,HR.out⟩⟩
   ·have hne:(s1==s)=false:=by simpa using hs
    have HN:=Hi (show lkR (r.drop (r.length - (j+1))) s=none by rw [show r.length - (j+1)=r.length - 1 - j from V0,hd,if_neg (fun e=>hs e.symm)]);clear hc1 f1 hp hq hd hs;go_wp2_with fail
    go_roundw
    case rel=>exact ⟨trivial,j+1,V0,by push_cast;first | omega | (congr 1;omega),HN⟩
    case measure=>simp [intOf];omega
  ·obtain rfl:j=r.length:=by omega
   have hge:decide ((r.length:Int) - 1 - (r.length:Int) ≥ 0)=false:=V4;have HN:=Hi (show lkR r s=none by have:=HQ.out;rw [Nat.sub_self] at this;exact this);go_wp2_with fail
   go_ret;exact ⟨rfl,.inl ⟨rfl,HN.out⟩⟩
theorem rplain{w0:World}{g:Nat}{r:Rw}(hRm:RmL w0 g r):∀ (m:Nat) (z:Tz),SizeOf.sizeOf z < m->mdE z->∀ (w:World) (k a:Int) (s:Bs) (n:Nat) (A:Option Addr) (la cA:Nat) (B:Option Addr) (lb cB:Nat),Below w0.heap.size w0 w->TrV w0 z k a s n A la cA B lb cB ->
  Calls Tryz.prog 40 #[.pointer (some ⟨g,0,none⟩),nzA k a s n A la cA B lb cB] w (TellP w (canB (lkR r) z))
 | 0,z,h=>absurd h (Nat.not_lt_zero _)
 | m+1,.mk k1 a1 s1 n1 ps l,hm=>fun hd w k a s n A la cA B lb cB hb hT=>by
  obtain ⟨rfl,rfl,rfl,rfl,rfl,rfl,hP,hs,hn,-,-,-,-⟩:=hT.parts;obtain ⟨w1,hw1,hb1,hX1,hs1⟩:=q05 w (nB k a s n A l.length cA B ps.length cB);have hb01:=hb.trans (hb1.mono hb.size);unfold mdE at hd;obtain ⟨_,hds,hc⟩:=hd;have IH:=Hi fun (i:Nat) (y:Tz) (hy:l[i]?=some y)=>rplain hRm m y V0O (q0a hds hy)
  have HAT:=Hi (rat w1 g r (hRm.below hb01) s);have HB1:=Hi hb1;have HW1:=Hi hw1;have HX1:=Hi hX1;have HP:=Hi hP;have HB0:=Hi hb01;have HDS:=Hi hds;obtain ⟨⟨e0,e1,e2,e3,e4,e5⟩,z0,z1,z2,z3,z4,z5⟩:=Blk.c6 hX1;have hgl:=hX1.lt;have hlm:l.length<=9223372036854775807:=Nat.le_trans hP.le hP.cap;obtain ⟨res,hres⟩:∃ res,canB (lkR r) (.mk k a s n ps l)=res:=⟨_,rfl⟩;rw [hres];rw [q2e] at hres;have HRES:=Hi hres;have HHC:=Hi hc;unfold TellP at IH ⊢;unfold AtP at HAT;clear hb hT hP hb1 hw1 hX1 hb01 hs1 hs hn hds hc hres hm;go_enter Tryz.func40,Tryz.ntmps40;go_upto_region 1 with fail
  rw [HW1.out];have H0:=Hi (Below.refl w1.heap.size w1);by_cases hk1:k = 1
  ·subst hk1;obtain ⟨rfl⟩:l=[]:=by
    rcases HHC.out with ⟨h,_⟩ | ⟨_,h⟩ | ⟨h,_⟩ | ⟨h,_⟩ | ⟨h,_⟩ | ⟨h,_⟩
    ·cases h
    ·exact h
    ·cases h
    ·cases h
    ·cases h
    ·cases h
   have HR:=Hi (show (lkR r s).isSome=res by rw [<-HRES.out,if_pos rfl];show (lkR r s).isSome=((lkR r s).isSome && true);rw [Bool.and_true]);clear HRES HHC;go_wp2_with fail
   refine (show Calls Tryz.prog 38 #[.pointer (some ⟨g,0,none⟩),.string ⟨s.toArray⟩,.int .i64 0] w1 _ from HAT.out).mono ?_;rintro e w2 ⟨rfl,(⟨rfl,hlk⟩ | ⟨i,x,rfl,hi,hp,hlk⟩)⟩
   ·have HR2:=Hi (show false=res from V2d);clear hlk;exact VU
   ·have HR2:=Hi (show true=res from V2d);have hlt:decide ((i:Int) < 0)=false:=V3;clear hlk hp;go_wp2_with fail
    go_loopw [7] (fun vi wr=>vi = .int .i64 0/\wr=w2) (fun _ _=>0)
    case atStart=>exact ⟨rfl,rfl⟩
    case round=>
     obtain ⟨rfl,rfl⟩:=hrel;exact VU
  clear HAT;by_cases hk4:k = 4
  ·subst hk4;obtain ⟨x,y,rfl⟩:∃ x y,l=[x,y]:=by
    exact V30
   have HR:=Hi (show ((conB y).isSome && canBs (lkR r) [x,y])=res from V4w);obtain ⟨bb,o,k2,a2,s2,n2,A2,la2,cA2,B2,lb2,cB2,hA2,hTy2,hbl2,hcel2⟩:=HP.out.cells (i:=1) (y:=y) rfl;subst hA2;simp only [Nat.one_mul] at hcel2;obtain ⟨g0,g1,g2,g3,g4,g5⟩:=hcel2 w1 HB0.out;simp only [Nat.add_assoc,Nat.reduceAdd] at g0 g1 g2 g3 g4 g5;have HCE:=Hi (rconst (w0:=w0) (SizeOf.sizeOf y+1) y (Nat.lt_succ_self _) (q0a HDS.out (i:=1) rfl) w1 k2 a2 s2 n2 A2 la2 cA2 B2 lb2 cB2 HB0.out hTy2);unfold ConP' at HCE;have hbl3:bb < w1.heap.size:=Nat.lt_of_lt_of_le hbl2 HB0.out.size;have e4:w1.cell? ⟨w.heap.size,4,none⟩=some (.slice (some ⟨bb,o,none⟩) 2 cA):=e4;have HX1':=Hi (show Blk w1 w.heap.size 26 (nB 4 a s n (some ⟨bb,o,none⟩) 2 cA B ps.length cB) from HX1.out);clear HRES HHC hTy2 hbl2 hcel2;generalize conB y=cy at HCE HR;go_wp2_with fail
   refine (show Calls Tryz.prog 22 #[nzA k2 a2 s2 n2 A2 la2 cA2 B2 lb2 cB2,.slice none 0 0] w1 _ from HCE.out).mono ?_;rintro e w2 ⟨rfl,hb2⟩;have hX2:=HX1'.out.below hb2 HX1'.out.lt;clear e0 e1 e2 e3 e4 e5 z0 z1 z2 z3 z4 z5 hgl g0 g1 g2 g3 g4 g5 hbl3;obtain ⟨⟨e0,e1,e2,e3,e4,e5⟩,z0,z1,z2,z3,z4,z5⟩:=Blk.c6 hX2;have hgl:=hX2.lt;have HB2:=Hi (HB1.out.trans (hb2.mono HB1.out.size));have H02:=Hi (HB0.out.trans (hb2.mono HB0.out.size));have HX2:=Hi hX2;clear hb2 hX2;cases cy with
   | none=>
    have HR2:=Hi (show false=res from HR.out);go_wp2_with fail
    go_ret;exact ⟨V16,HB2.out⟩
   | some u=>
    have HQ:=Hi (show canBs (lkR r) [x,y]=res from HR.out);have e4:w2.cell? ⟨w.heap.size,4,none⟩=some (.slice (some ⟨bb,o,none⟩) [x,y].length cA):=e4;have hlm2:[x,y].length<=9223372036854775807:=hlm;have HX2:=Hi (show Blk w2 w.heap.size 26 (nB 4 a s n (some ⟨bb,o,none⟩) [x,y].length cA B ps.length cB) from HX2.out);obtain ⟨l,hll⟩:∃ l,[x,y]=l:=⟨_,rfl⟩;rw [hll] at HQ e4 hlm2 HP IH HX2;clear hll hlm HX1 HX1' HDS HCE HR;go_wp2_with fail
    go_loopw [7] (fun vi wr=>∃ i:Nat,i<=l.length/\vi = .int .i64 (i:Int)/\Hid (Below w.heap.size w wr)/\Hid (Below w0.heap.size w0 wr)/\Hid (Blk wr w.heap.size 26 (nB 4 a s n (some ⟨bb,o,none⟩) l.length cA B ps.length cB))/\Hid (canBs (lkR r) (l.drop i)=res)) (fun vi _=>l.length - (intOf vi).toNat)
    case atStart=>exact ⟨0,V0,rfl,HB2,H02,HX2,HQ⟩
    case round=>
     obtain ⟨i,hi,rfl,HBr,H0r,HXr,HQr⟩:=hrel;clear e0 e1 e2 e3 e4 e5 z0 z1 z2 z3 z4 z5 hgl;obtain ⟨⟨e0,e1,e2,e3,e4,e5⟩,z0,z1,z2,z3,z4,z5⟩:=Blk.c6 HXr.out;have hgl:=HXr.out.lt;by_cases hlt:i < l.length
     ·have hil:(i:Int) < (l.length:Int):=by omega
      obtain ⟨y,hy⟩:∃ y,l[i]?=some y:=⟨_,List.getElem?_eq_getElem hlt⟩;obtain ⟨b9,o9,k',a',s',n',A',la',cA',B',lb',cB',hA9,hTy,hbl,g0',g1,g2,g3,g4,g5⟩:=HP.out.at_ H0r.out hy;simp only [Option.some.injEq,Addr.mk.injEq,and_true] at hA9;obtain ⟨hA9a,hA9b⟩:=hA9;subst hA9a;subst hA9b;have HC:=Hi (IH.out i y hy wr k' a' s' n' A' la' cA' B' lb' cB' H0r.out hTy);have hq:=HQr.out;rw [drop_at hy,q0b] at hq;have HQ2:=Hi hq;have hbl2:bb < wr.heap.size:=Nat.lt_of_lt_of_le hbl H0r.out.size;exact V2y
     ·exact V2R
  by_cases hk5:k = 5
  ·subst hk5;by_cases hsel:s=[115,101,108]
   ·subst hsel;by_cases hl3:l.length = 3
    ·have i3:((l.length:Int) != 3)=false:=by simp;omega
     have HQ:=Hi (show canBs (lkR r) l=res by have h:=HRES.out;rw [if_neg V2,if_neg V2,if_pos rfl,hl3] at h;exact h);clear HRES hl3;go_wp2_with fail
     go_loopw [7] (fun vi wr=>∃ i:Nat,i<=l.length/\vi = .int .i64 (i:Int)/\Hid (Below w.heap.size w wr)/\Hid (Below w0.heap.size w0 wr)/\Hid (Blk wr w.heap.size 26 (nB 5 a [115,101,108] n A l.length cA B ps.length cB))/\Hid (canBs (lkR r) (l.drop i)=res)) (fun vi _=>l.length - (intOf vi).toNat)
     case atStart=>exact ⟨0,V0,rfl,HB1,HB0,HX1,HQ⟩
     case round=>
      exact V2k
    ·have i3:((l.length:Int) != 3)=true:=by simp;omega
     have HR2:=Hi (show false=res by have h:=HRES.out;rw [if_neg V2,if_neg V2,if_pos rfl,decide_eq_false hl3] at h;rw [<-h];simp);exact VU
   ·have i3:(s != [115,101,108])=true:=by simpa using hsel
    have HR2:=Hi (show false=res by have h:=HRES.out;rw [if_neg V2,if_neg V2,if_pos rfl,decide_eq_false (show ¬ s=sel from hsel)] at h;rw [<-h];rfl);exact VU
  have HQ:=Hi (show canBs (lkR r) l=res from V4m);have i1:(k==1)=false:=V4;have i4:(k==4)=false:=V4;have i5:(k==5)=false:=V4;clear HRES HHC hk1 hk4 hk5;go_wp2_with fail
  go_loopw [7] (fun vi wr=>∃ i:Nat,i<=l.length/\vi = .int .i64 (i:Int)/\Hid (Below w.heap.size w wr)/\Hid (Below w0.heap.size w0 wr)/\Hid (Blk wr w.heap.size 26 (nB k a s n A l.length cA B ps.length cB))/\Hid (canBs (lkR r) (l.drop i)=res)) (fun vi _=>l.length - (intOf vi).toNat)
  case atStart=>exact ⟨0,V0,rfl,HB1,HB0,HX1,HQ⟩
  case round=>
   exact V2k
section
attribute [local go_sem] Oper.semAt_some
theorem backO(A:Option Addr)(L c:Nat)(w:World):Calls Tryz.prog 71 #[.slice A L c] w fun e w'=>
  e = .returned (.func (.func 104) #[] #[.pointer (some ⟨w.heap.size,0,none⟩)])/\w'=w.alloc (.cells #[.slice A L c] 91):=by
 go_enter Tryz.func71,Tryz.ntmps71;go_wp2_with fail
 go_ret;exact ⟨rfl,rfl⟩
theorem q4Q(n:Nat)(hn:1<=n)(Bs:Nat)(w:World)(hB:Bs < w.heap.size)(hc:w.cell? ⟨Bs,0,none⟩=some (.slice none 0 0)) :
  SeqStopsK Fence.wide n Tryz.prog 104 #[.pointer (some ⟨Bs,0,none⟩)] (fun x:Empty=>x.elim) (fun _ _=>True) (fun ys=>ys=[]) (fun _=>False) 0 w:=fun l J Jx W hW _ _ hY h0=>by
 have hcw:W.cell? ⟨Bs,0,none⟩=some (.slice none 0 0):=(hW.cell (p:=⟨Bs,0,none⟩) hB).trans hc;clear hW hc hY;refine callsIn_of_wp Tryz.func104 rfl trivial ?_ rfl;simp only [Tryz.ntmps104,List.size_toArray,List.length_cons,List.length_nil,Nat.reduceAdd,Nat.reduceSub,Array.replicate_succ,Array.replicate_zero,List.push_toArray,List.append_toArray,List.nil_append,List.cons_append]
 gi_wp2
 gi_loopw [3] (fun vr wr=>vr = .int .i64 (-1)/\Hid (J [] wr)) (fun _ _=>0)
 case atStart=>exact ⟨rfl,Hi h0⟩
 case round=>
  obtain ⟨rfl,HJ⟩:=hrel
  gi_wp2
  go_end0
  exact ⟨⟨_,rfl⟩,.inl ⟨_,rfl,HJ.out⟩⟩
def NoI(p:Nat)(w:World):Prop:=p < w.heap.size/\w.cell? ⟨p,0,none⟩=some (.slice none 0 0)
theorem const1(w:World)(p:Nat)(h:NoI p w)(s:Bs):Calls Tryz.prog 70 #[.string ⟨s.toArray⟩,.pointer (some ⟨p,0,none⟩)] w (NumP w loN0 s):=by
 obtain ⟨hp,hc⟩:=h;obtain ⟨w3,hw3⟩:∃ u,((w.alloc (.cells #[.string ⟨s.toArray⟩] 9)).alloc (.cells #[.int .u32 0] 22)).alloc (.cells #[.bool false] 4)=u:=⟨_,rfl⟩;have hb3:Below w.heap.size w w3:=by rw [<-hw3];exact (((Below.refl _ w).alloc (Nat.le_refl _) _).alloc V3 _).alloc V4 _
 have hs3:w3.heap.size=w.heap.size+3:=by rw [<-hw3];simp
 have hX:Blk w3 (w.heap.size+1) 22 #[.int .u32 0]:=by
  have:=(Blk.new (w.alloc (.cells #[.string ⟨s.toArray⟩] 9)) 22 #[.int .u32 0]).alloc (.cells #[.bool false] 4);rw [World.size_alloc] at this;rw [<-hw3];exact this
 have hY:Blk w3 (w.heap.size+2) 4 #[.bool false]:=by
  have:=Blk.new ((w.alloc (.cells #[.string ⟨s.toArray⟩] 9)).alloc (.cells #[.int .u32 0] 22)) 4 #[.bool false];rw [World.size_alloc,World.size_alloc] at this;rw [<-hw3];exact this
 have hc3:w3.cell? ⟨p,0,none⟩=some (.slice none 0 0):=(hb3.cell (p:=⟨p,0,none⟩) hp).trans hc;have HB3:=Hi hb3;have HX:=Hi hX;have HY:=Hi hY;have HC3:=Hi hc3;have HW3:=Hi hw3;have HS3:=Hi hs3;have HP:=Hi hp;have HBK:=Hi (backO none 0 0 w3);have hcc:(((w.alloc (.cells #[.string ⟨s.toArray⟩] 9)).alloc (.cells #[.int .u32 0] 22)).alloc (.cells #[.bool false] 4)).cell? ⟨p,0,none⟩=some (.slice none 0 0):=by rw [hw3];exact hc3
 clear hb3 hX hY hw3 hc3 hc;refine (callsIn_wide (n:=3)).1 ?_;refine callsIn_of_wp_marks Tryz.func70 rfl trivial ?_ rfl;simp only [Tryz.ntmps70,List.size_toArray,List.length_cons,List.length_nil,Nat.reduceAdd,Nat.reduceSub,Array.replicate_succ,Array.replicate_zero,List.push_toArray,List.append_toArray,List.nil_append,List.cons_append]
 gi_wp2_with (refine ⟨trivial,?_⟩;gi_at_call 71;rw [HW3.out];refine (callsIn_wide.2 HBK.out).mono ?_;rintro e w' ⟨rfl,hw2⟩;subst hw2)
 have hBl:w.heap.size+3 < (w3.alloc (.cells #[.slice none 0 0] 91)).heap.size:=by rw [World.size_alloc,HS3.out];omega
 have hcl:(w3.alloc (.cells #[.slice none 0 0] 91)).cell? ⟨w.heap.size+3,0,none⟩=some (.slice none 0 0):=by
  have:=(Blk.new w3 91 #[.slice none 0 0]).cell 0;rw [HS3.out] at this;exact this
 refine wpIn_rangeFunc_ownG (n:=3) (α:=Empty) rfl V2 (gf:=104) (lb:=#[.pointer (some ⟨w.heap.size+3,0,none⟩)]) rfl trivial (enters_of Tryz.func104 V1 rfl)
  (q4Q 2 V2 (w.heap.size+3) _ hBl hcl) (fun _ _=>trivial) (fun _ _ _ _ _ _ _ _=>trivial) (Below.refl _ _) (fun x=>x.elim)
  (fun _ W=>Below w.heap.size w W/\Blk W (w.heap.size+1) 22 #[.int .u32 0]/\Blk W (w.heap.size+2) 4 #[.bool false])
  (fun _ _ _=>False)
  (fun _ A W row ⟨h1,h2,h3⟩ hg hr=>⟨q2i h1 hg hr (by have:=HS3.out;simp;omega) h1.size,q0T h2 hg hr,q0T h3 hg hr⟩)
  (fun _ _ _ _ _ hs _ _=>hs)
  ⟨HB3.out.alloc HB3.out.size _,HX.out.alloc _,HY.out.alloc _⟩
  (fun x=>x.elim) ?assign ?body ?done ?stop
 case assign=>intro l x;exact x.elim
 case body=>intro l pre x W _ hlt;exact absurd hlt V3
 case done=>
  rintro D xs W hD _ ⟨h1,h2,h3⟩ hK;have f2:=h2.cell 0;have f3:=h3.cell 0;have q2:=h2.frozen 0;have q3:=h3.frozen 0;simp only [List.getElem?_toArray,List.getElem?_cons_zero,List.getElem?_cons_succ] at f2 f3;have hsz:w.heap.size+3 < D:=by have:=HS3.out;simp at hD;omega
  obtain ⟨W2,hW2⟩:∃ u,(W.setCell ⟨w.heap.size+1,0,none⟩ (.int .u32 0)).setCell ⟨w.heap.size+2,0,none⟩ (.bool false)=u:=⟨_,rfl⟩;have k2:Blk W2 (w.heap.size+1) 22 #[.int .u32 0]:=by rw [<-hW2];exact (h2.set 0 _).far (p:=⟨w.heap.size+2,0,none⟩) (by show w.heap.size+1≠w.heap.size+2;omega) _
  have k3:Blk W2 (w.heap.size+2) 4 #[.bool false]:=by rw [<-hW2];exact (h3.far (p:=⟨w.heap.size+1,0,none⟩) (by show w.heap.size+2≠w.heap.size+1;omega) _).set 0 _
  have kb:Below w.heap.size w W2:=by rw [<-hW2];exact (h1.setCell (p:=⟨w.heap.size+1,0,none⟩) (by show w.heap.size<=w.heap.size+1;omega) _).setCell (p:=⟨w.heap.size+2,0,none⟩) V0U _
  have kD:W2.heap[D]?=some (.deferred (some [])):=by rw [<-hW2];exact ((KeepsOthers.setCell W ⟨w.heap.size+1,0,none⟩ _).trans (KeepsOthers.setCell _ ⟨w.heap.size+2,0,none⟩ _)).same D _ hK rfl
  have hgr:=grownBy_putObj' W2 D (.deferred none);have hrr:∀ r,some D=some r->w.heap.size<=r/\∃ o:Obj,W2.heap[r]?=some o/\o.isCells=false:=fun r e=>by cases e;exact ⟨V0,_,kD,rfl⟩
  have j2:=q0T k2 hgr hrr;have j3:=q0T k3 hgr hrr;have jb:=q2i kb hgr hrr (Nat.le_refl _) kb.size;have J2:=Hi j2;have J3:=Hi j3;have JB:=Hi jb;have KD:=Hi kD;have HW2:=Hi hW2;clear h1 h2 h3 k2 k3 kb kD hgr hrr j2 j3 jb hW2 hsz hD hK
  gi_wp2
  rw [HW2.out];refine ⟨V3,.inl ⟨_,_,rfl,run_takeDeferred KD.out,?_⟩⟩;exact ⟨_,q1b rfl _ _ _ _ _ _ rfl rfl (q03 (run_isAgg_plain Tryz.underlying22 rfl _) (J2.out.cell 0)) (q03 (run_isAgg_plain Tryz.underlying4 rfl _) (J3.out.cell 0)),rfl,JB.out⟩
 case stop=>intro D c pre W _ _ h _;exact h.elim
theorem noI(p:Nat):NuI (true,p) loN0 (NoI p) where
 mono:=fun h hb=>⟨Nat.lt_of_lt_of_le h.1 hb.size,(hb.cell (p:=⟨p,0,none⟩) h.1).trans h.2⟩
 run:=fun w h s hs=>const1 w p h s
def ConP(w:World)(z:Tz)(e:Ending)(w':World):Prop:=e = .returned (.tuple #[uV ((conB z).getD 0),.bool (conB z).isSome])/\Below w.heap.size w w'
theorem constN{w0:World}(z:Tz)(w:World)(k a:Int)(s:Bs)(n:Nat)(A:Option Addr)(la cA:Nat)(B:Option Addr)(lb cB:Nat)(hb:Below w0.heap.size w0 w)(hT:TrV w0 z k a s n A la cA B lb cB) :
  Calls Tryz.prog 34 #[nzA k a s n A la cA B lb cB,.slice none 0 0] w (ConP w z):=by
 obtain ⟨w1,hw1,hb1,hX1,hs1⟩:=q05 w (nB k a s n A la cA B lb cB);obtain ⟨w2,hw2,hb2,-⟩:=alK w1 #[.slice none 0 0] 91;have hX2:=hX1.below hb2 hX1.lt;have hN2:NoI (w.heap.size+1) w2:=by
  have h1:w2.heap.size=w.heap.size+2:=V0o;refine ⟨V0,?_⟩;have:=(Blk.new w1 91 #[.slice none 0 0]).cell 0;rw [hs1,hw2] at this;exact this
 have hb12:=hb1.trans (hb2.mono hb1.size);have HC:=Hi (strayQ (w0:=w0) (noI (w.heap.size+1)) (SizeOf.sizeOf z+1) z (Nat.lt_succ_self _) w2 k a s n A la cA B lb cB (hb.trans (hb12.mono hb.size)) hN2 hT);have HWO:=Hi fun v (hv:Below w2.heap.size w2 v) (hst:strB loN0 z=none)=>worthQ (w0:=w0) (noI (w.heap.size+1)) (SizeOf.sizeOf z+1) z (Nat.lt_succ_self _) v k a s n A la cA B lb cB ((hb.trans (hb12.mono hb.size)).trans (hv.mono (hb.trans (hb12.mono hb.size)).size)) ((noI (w.heap.size+1)).mono hN2 hv) hT hst
 have HB2:=Hi hb12;have HW1:=Hi hw1;have HW2:=Hi hw2;have HX2:=Hi hX2;have hmf:∀ (fn:Fn) (first cap:Array Value) (w:World),(Instr.makeFunc fn first cap).run Tryz.prog w = .ok (.func fn first cap) w:=fun _ _ _ _=>rfl
 obtain ⟨⟨e0,e1,e2,e3,e4,e5⟩,z0,z1,z2,z3,z4,z5⟩:=Blk.c6 hX2;have hgl:=hX2.lt;obtain ⟨res,hres⟩:∃ res,strB loN0 z=res:=⟨_,rfl⟩;have HRES:=Hi hres;rw [hres] at HC;unfold ConP;have hcon:conB z=if res.isNone=true then some (worB loN0 z) else none:=by unfold conB;rw [hres]
 rw [hcon];clear hb hT hw1 hb1 hX1 hw2 hb2 hX2 hN2 hb12 hres hcon;generalize worB loN0 z=x2 at HWO ⊢;go_enter Tryz.func34,Tryz.ntmps34;go_upto_region 1 with fail
 rw [HW1.out,HW2.out];go_wp2_with fail
 refine (show Calls Tryz.prog 72 #[nzA k a s n A la cA B lb cB,.func (.func 70) #[] #[.pointer (some ⟨w.heap.size+1,0,none⟩)]] w2 _ from HC.out).mono ?_;intro e w3 h3;clear e0 e1 e2 e3 e4 e5 z0 z1 z2 z3 z4 z5 hgl;cases res with
 | none=>
  obtain ⟨rfl,hb3⟩:=h3;obtain ⟨w4,hw4,hb4,hX4,hs4⟩:=q05 w3 #[.int .i64 0,.string ⟨#[]⟩,.int .u32 0,.int .i64 0,.slice none 0 0,.slice none 0 0];have hb24:=hb3.trans (hb4.mono hb3.size);have hX5:=HX2.out.below hb24 HX2.out.lt;have HWW:=Hi (HWO.out w4 hb24 HRES.out);obtain ⟨⟨e0,e1,e2,e3,e4,e5⟩,z0,z1,z2,z3,z4,z5⟩:=Blk.c6 hX5;have hgl:=hX5.lt;have HB4:=Hi (HB2.out.trans (hb24.mono HB2.out.size));have HW4:=Hi hw4;clear hb3 hw4 hb4 hX4 hs4 hb24 hX5;go_upto_region 3 with fail
  rw [HW4.out];go_wp2_with fail
  refine (show Calls Tryz.prog 73 #[nzA k a s n A la cA B lb cB,.func (.func 70) #[] #[.pointer (some ⟨w.heap.size+1,0,none⟩)]] w4 _ from HWW.out).mono ?_;rintro e w5 ⟨rfl,hb5⟩;have HB5:=Hi (HB4.out.trans (hb5.mono HB4.out.size));clear hb5;go_wp2_with fail
  go_ret2
  exact ⟨rfl,HB5.out⟩
 | some x=>
  obtain ⟨k2,a2,s2⟩:=x;obtain ⟨hs2,⟨n2,A2,la2,cA2,B2,lb2,cB2,rfl⟩,hb3⟩:=h3;obtain ⟨w4,hw4,hb4,hX4,hs4⟩:=q05 w3 (nB k2 a2 s2 n2 A2 la2 cA2 B2 lb2 cB2);have HB4:=Hi (HB2.out.trans ((hb3.trans (hb4.mono hb3.size)).mono HB2.out.size));have HW4:=Hi hw4;clear hb3 hw4 hb4 hX4 hs4;go_upto_region 3 with fail
  rw [HW4.out];go_wp2_with fail
  go_ret2
  exact ⟨rfl,HB4.out⟩
theorem constE{w0:World}(z:Tz)(w:World)(k a:Int)(s:Bs)(n:Nat)(A:Option Addr)(la cA:Nat)(B:Option Addr)(lb cB:Nat)(hb:Below w0.heap.size w0 w)(hT:TrV w0 z k a s n A la cA B lb cB) :
  Calls Tryz.prog 33 #[nzA k a s n A la cA B lb cB] w (ConP w z):=by
 obtain ⟨w1,hw1,hb1,hX1,hs1⟩:=q05 w (nB k a s n A la cA B lb cB);have HC:=Hi (constN z w1 k a s n A la cA B lb cB (hb.trans (hb1.mono hb.size)) hT);have HB1:=Hi hb1;have HW1:=Hi hw1;obtain ⟨⟨e0,e1,e2,e3,e4,e5⟩,z0,z1,z2,z3,z4,z5⟩:=Blk.c6 hX1;have hgl:=hX1.lt;unfold ConP at HC ⊢;clear hb hT hw1 hb1 hX1 hs1;generalize conB z=r at HC ⊢;go_enter Tryz.func33,Tryz.ntmps33;go_upto_region 1 with fail
 rw [HW1.out];go_wp2_with fail
 refine HC.out.mono ?_;rintro e w2 ⟨rfl,hb2⟩;have HB2:=Hi (HB1.out.trans (hb2.mono HB1.out.size));clear hb2;go_wp2_with fail
 go_ret2
 exact ⟨rfl,HB2.out⟩
end
abbrev exC:Value:=.func (.func 33) #[] #[]
abbrev eX:Value:=.agg #[exC,.map none]
theorem boxes3(w:World)(ex cs ms:Array Value):∃ w1,((w.alloc (.cells ex 75)).alloc (.cells cs 26)).alloc (.cells ms 77)=w1/\Below w.heap.size w w1/\w1.heap.size=w.heap.size+3 /\
  Blk w1 w.heap.size 75 ex/\Blk w1 (w.heap.size+1) 26 cs/\Blk w1 (w.heap.size+2) 77 ms:=by
 refine ⟨_,rfl,(((Below.refl _ _).alloc (Nat.le_refl _) _).alloc V3 _).alloc V4 _,V3,((Blk.new w _ _).alloc _).alloc _,?_,?_⟩
 ·have h:=(Blk.new (w.alloc (.cells ex 75)) 26 cs).alloc (.cells ms 77);rw [World.size_alloc] at h;exact h
 ·have h:=Blk.new ((w.alloc (.cells ex 75)).alloc (.cells cs 26)) 77 ms;rw [World.size_alloc,World.size_alloc] at h;exact h
theorem canp{w0 w1:World}{kb q g0:Nat}{kn:Kn}(hX:Blk w1 g0 75 #[exC,.map none])(hM:Blk w1 (g0+2) 77 #[.map (some kb)])(hb:Below w0.heap.size w0 w1)(hMp:MpU w1 kb q kn)(y:Tz)
  (IH:∀ (w:World) (k a:Int) (s:Bs) (n:Nat) (A:Option Addr) (la cA:Nat) (B:Option Addr) (lb cB:Nat),Below w0.heap.size w0 w->MpU w kb q kn->TrV w0 y k a s n A la cA B lb cB->Calls Tryz.prog 36 #[eX,nzA k a s n A la cA B lb cB,.map (some kb)] w (TellP w (canB kn y)))
  (v:World) (hv:Below w1.heap.size w1 v) (k a:Int) (s:Bs) (n:Nat) (A:Option Addr) (la cA:Nat) (B:Option Addr) (lb cB:Nat) (hT:TrV w0 y k a s n A la cA B lb cB) :
  Calls Tryz.prog 78 #[nzA k a s n A la cA B lb cB,.pointer (some ⟨g0,0,none⟩),.pointer (some ⟨g0+2,0,none⟩)] v (TellP v (!canB kn y)):=by
 obtain ⟨v1,hv1,hb1,hX1,hs1⟩:=q05 v (nB k a s n A la cA B lb cB);have hwv:=hv.trans (hb1.mono hv.size);have hY:=hX.below hwv hX.lt;have hZ:=hM.below hwv hM.lt;have HC:=Hi (IH v1 k a s n A la cA B lb cB (hb.trans (hwv.mono hb.size)) (hMp.upd (X:=fun _=>False) (Upd.of_below hwv fun _=>False) id) hT);obtain ⟨⟨e0,e1,e2,e3,e4,e5⟩,z0,z1,z2,z3,z4,z5⟩:=Blk.c6 hX1;obtain ⟨y0,y1,x0,x1⟩:=Blk.c2 hY;have m0:=hZ.cell 0;simp only [List.getElem?_toArray,List.getElem?_cons_zero] at m0;have hgl:=hX1.lt;have hyl:=hY.lt;have hzl:=hZ.lt;have HB1:=Hi hb1;have HW1:=Hi hv1;unfold TellP at HC ⊢;clear IH hT hX1 hY hZ hwv hb hv hX hM hMp hv1 hb1 hs1;generalize canB kn y=r at HC ⊢;go_enter Tryz.func78,Tryz.ntmps78;go_upto_region 1 with fail
 rw [HW1.out];go_wp2_with fail
 refine (show Calls Tryz.prog 36 #[eX,nzA k a s n A la cA B lb cB,.map (some kb)] v1 _ from HC.out).mono ?_;rintro e w2 ⟨rfl,hb2⟩;have HB2:=Hi (HB1.out.trans (hb2.mono HB1.out.size));clear hb2;go_wp2_with fail
 go_ret;exact ⟨rfl,HB2.out⟩
theorem cindexF{w0 wb:World}(hb:Below w0.heap.size w0 wb){A:Option Addr}{c:Nat}{l:List Tz}(hP:Pts w0 A c l)(p1 p2:Value)(p:Tz->Bool)
  (HC:∀ (i:Nat) (y:Tz),l[i]?=some y->∀ v,Below wb.heap.size wb v->∀ (k a:Int) (s:Bs) (n:Nat) (A:Option Addr) (la cA:Nat) (B:Option Addr) (lb cB:Nat),TrV w0 y k a s n A la cA B lb cB->Calls Tryz.prog 78 #[nzA k a s n A la cA B lb cB,p1,p2] v (TellP v (p y)))
  (w:World) (hw:Below wb.heap.size wb w) :
  Calls Tryz.prog 107 #[.slice A l.length c,.func (.func 78) #[] #[p1,p2]] w fun e w'=>∃ r:Int,e = .returned (.int .i64 r)/\l.any p=decide (0<=r)/\Below w.heap.size w w':=by
 have HP:=Hi hP;have HB:=Hi hb;have HCC:=Hi HC;have HW:=Hi hw;have hlm:l.length<=9223372036854775807:=Nat.le_trans hP.le hP.cap;have hen:=enters_of Tryz.func78 V1 rfl;clear hP hb HC hw;go_enter Tryz.func107,Tryz.ntmps107;go_wp2_with fail
 go_loopw [8] (fun vi wr=>∃ i:Nat,i<=l.length/\vi = .int .i64 (i:Int)/\Hid (Below w.heap.size w wr)/\Hid (∀ j y,j < i->l[j]?=some y->p y=false)) (fun vi _=>l.length - (intOf vi).toNat)
 case atStart=>exact ⟨0,V0,rfl,Hi (Below.refl _ _),Hi fun j y hj=>absurd hj V0⟩
 case round=>
  obtain ⟨i,hi,rfl,HR,HQ⟩:=hrel;by_cases hlt:i < l.length
  ·have hil:(i:Int) < (l.length:Int):=by omega
   obtain ⟨y,hy⟩:∃ y,l[i]?=some y:=⟨_,List.getElem?_eq_getElem hlt⟩;have hwb:=HW.out.trans (HR.out.mono HW.out.size);have hb0:=HB.out.trans (hwb.mono HB.out.size);obtain ⟨bb,o,k',a',s',n',A',la',cA',B',lb',cB',hA,hTy,hbl,g0',g1,g2,g3,g4,g5⟩:=HP.out.at_ hb0 hy;subst hA;have HCL:=Hi (HCC.out i y hy wr hwb k' a' s' n' A' la' cA' B' lb' cB' hTy);have hbl2:bb < wr.heap.size:=Nat.lt_of_lt_of_le hbl hb0.size;have HY:=Hi hy;obtain ⟨r,hr⟩:∃ r,p y=r:=⟨_,rfl⟩;have HPR:=Hi hr;rw [hr] at HCL;clear hTy hbl hwb hb0 hy hr;go_wp2_with fail
   refine (show Calls Tryz.prog 78 #[nzA k' a' s' n' A' la' cA' B' lb' cB',p1,p2] wr _ from HCL.out).mono ?_;rintro e w4 ⟨rfl,hb4⟩;have HB4:=Hi (HR.out.trans (hb4.mono HR.out.size));clear hb4 g0' g1 g2 g3 g4 g5;cases r with
   | true=>
    have HANY:=Hi (show l.any p=true from List.any_eq_true.2 ⟨y,List.mem_of_getElem? HY.out,HPR.out⟩);go_wp2_with fail
    go_ret;exact ⟨_,rfl,by rw [HANY.out];simp,HB4.out⟩
   | false=>
    have HN:=Hi (show ∀ j z,j < i+1->l[j]?=some z->p z=false from fun j z hj hz=>by
     by_cases h:j < i
     ·exact HQ.out j z h hz
     ·obtain rfl:j=i:=by omega
      rw [HY.out] at hz;obtain rfl:=Option.some.inj hz;exact HPR.out)
    go_wp2_with fail
    go_roundw
    case rel=>exact ⟨i+1,V0,V5,HB4,HN⟩
    case measure=>simp [intOf];omega
  ·have HANY:=Hi (show l.any p=false from by
    rw [List.any_eq_false];intro y hy;obtain ⟨j,hj⟩:=List.getElem?_of_mem hy;have hjl:=(List.getElem?_eq_some_iff.1 hj).1;rw [HQ.out j y V0 hj];decide)
   go_wp2_with fail
   go_ret;exact ⟨_,rfl,by rw [HANY.out];simp,HR.out⟩
theorem ccontF{w0 wb:World}(hb:Below w0.heap.size w0 wb){A:Option Addr}{c:Nat}{l:List Tz}(hP:Pts w0 A c l)(p1 p2:Value)(p:Tz->Bool)
  (HC:∀ (i:Nat) (y:Tz),l[i]?=some y->∀ v,Below wb.heap.size wb v->∀ (k a:Int) (s:Bs) (n:Nat) (A:Option Addr) (la cA:Nat) (B:Option Addr) (lb cB:Nat),TrV w0 y k a s n A la cA B lb cB->Calls Tryz.prog 78 #[nzA k a s n A la cA B lb cB,p1,p2] v (TellP v (p y)))
  (w:World) (hw:Below wb.heap.size wb w) :
  Calls Tryz.prog 77 #[.slice A l.length c,.func (.func 78) #[] #[p1,p2]] w (TellP w (l.any p)):=by
 have HI:=Hi (cindexF hb hP p1 p2 p HC w hw);unfold TellP;clear hP hb HC hw;generalize l.any p=res at HI ⊢;go_enter Tryz.func77,Tryz.ntmps77;go_wp2_with fail
 refine HI.out.mono ?_;rintro e w1 ⟨r,rfl,hr,hb⟩;subst hr;have HB:=Hi hb;clear hb;go_wp2_with fail
 go_ret;exact ⟨rfl,HB.out⟩
theorem q4d(kn:Kn):∀ l,(!(l.any fun y=>!canB kn y))=canBs kn l
 | []=>by unfold canBs;rfl
 | x :: l=>by
  rw [q0b,<-q4d kn l,List.any_cons];cases canB kn x <;> rfl
theorem can{w0:World}{kb q:Nat}{kn:Kn}:∀ (m:Nat) (z:Tz),SizeOf.sizeOf z < m->mdE z->∀ (w:World) (k a:Int) (s:Bs) (n:Nat) (A:Option Addr) (la cA:Nat) (B:Option Addr) (lb cB:Nat),Below w0.heap.size w0 w->MpU w kb q kn->TrV w0 z k a s n A la cA B lb cB ->
  Calls Tryz.prog 36 #[eX,nzA k a s n A la cA B lb cB,.map (some kb)] w (TellP w (canB kn z))
 | 0,z,h=>absurd h (Nat.not_lt_zero _)
 | m+1,.mk k1 a1 s1 n1 ps l,hm=>fun hd w k a s n A la cA B lb cB hb hM hT=>by
  obtain ⟨rfl,rfl,rfl,rfl,rfl,rfl,hP,hs,hn,-,-,-,-⟩:=hT.parts;obtain ⟨w1,hw1,hb1,hs1,hE1,hX1,hK1⟩:=boxes3 w #[exC,.map none] (nB k a s n A l.length cA B ps.length cB) #[.map (some kb)];have hM1:=hM.upd (X:=fun _=>False) (Upd.of_below hb1 fun _=>False) id;have hb01:=hb.trans (hb1.mono hb.size);unfold mdE at hd;obtain ⟨_,hds,hc⟩:=hd;have HCF:=Hi (ccontF hb01 hP (.pointer (some ⟨w.heap.size,0,none⟩)) (.pointer (some ⟨w.heap.size+2,0,none⟩)) (fun y=>!canB kn y) fun i y hy v hv=>
   canp hE1 hK1 hb01 hM1 y (can m y V0O (q0a hds hy)) v hv)
  have HB1:=Hi hb1;have HW1:=Hi hw1;have HE1:=Hi hE1;have HX1:=Hi hX1;have HK1:=Hi hK1;have HP:=Hi hP;have HB0:=Hi hb01;obtain ⟨⟨e0,e1,e2,e3,e4,e5⟩,z0,z1,z2,z3,z4,z5⟩:=Blk.c6 hX1;obtain ⟨y0,y1,x0,x1⟩:=Blk.c2 hE1;have m0:=hK1.cell 0;simp only [List.getElem?_toArray,List.getElem?_cons_zero] at m0;have hgl:=hX1.lt;have hyl:=hE1.lt;have hzl:=hK1.lt;have hlook:=q7X hM1 hs;obtain ⟨res,hres⟩:∃ res,canB kn (.mk k a s n ps l)=res:=⟨_,rfl⟩;rw [hres];rw [q2e,<-q4d] at hres;have HRES:=Hi hres;have HHC:=Hi hc;generalize (l.any fun y=>!canB kn y)=an at HCF HRES;unfold TellP at HCF ⊢;clear hb hM hT hP hb1 hw1 hE1 hX1 hK1 hM1 hb01 hs1 hs hn hds hc hres hm;go_enter Tryz.func36,Tryz.ntmps36;go_upto_region 1 with fail
  rw [HW1.out];by_cases hk1:k = 1
  ·subst hk1;have HR:=Hi (show ((kn s).isSome && !an)=res from V01);clear HRES HHC;generalize (kn s).getD 0=u1 at hlook;generalize (kn s).isSome=u2 at hlook HR;cases u2 with
   | false=>
    go_wp2_with fail
    go_ret;exact ⟨VL,HB1.out⟩
   | true=>
    exact V2D
  clear hlook;by_cases hk4:k = 4
  ·subst hk4;obtain ⟨x,y,rfl⟩:∃ x y,l=[x,y]:=by
    exact V30
   have HR:=Hi (show ((conB y).isSome && !an)=res from V4w);obtain ⟨bb,o,k2,a2,s2,n2,A2,la2,cA2,B2,lb2,cB2,hA2,hTy2,hbl2,hcel2⟩:=HP.out.cells (i:=1) (y:=y) rfl;subst hA2;have HAT:=Hi fun v (hv:Below w0.heap.size w0 v)=>atN (L:=2) (c:=cA) v hv V2 V2 hbl2 hcel2
   have HCE:=Hi fun v (hv:Below w0.heap.size w0 v)=>constE y v k2 a2 s2 n2 A2 la2 cA2 B2 lb2 cB2 hv hTy2
   unfold ConP at HCE;generalize conB y=cy at HCE HR;have HX1':=Hi (show Blk w1 (w.heap.size+1) 26 (nB 4 a s n (some ⟨bb,o,none⟩) 2 cA B ps.length cB) from HX1.out);have HCF':=Hi (show ∀ (v:World),Below w1.heap.size w1 v->Calls Tryz.prog 77 #[.slice (some ⟨bb,o,none⟩) 2 cA,.func (.func 78) #[] #[.pointer (some ⟨w.heap.size,0,none⟩),.pointer (some ⟨w.heap.size+2,0,none⟩)]] v fun e w'=>e = .returned (.bool an)/\Below v.heap.size v w' from HCF.out);have hen:=enters_of Tryz.func33 V1 rfl;clear HRES HHC hTy2 hbl2 hcel2 HCF HX1;go_wp2_with fail
   have hdr:Below w1.heap.size w1 w1.drew:=Below.drew (Below.refl _ _);obtain ⟨wd,hwd⟩:∃ v,w1.drew=v:=⟨_,rfl⟩;rw [hwd] at hdr;have HXd:=Hi (HX1'.out.below hdr HX1'.out.lt);have HEd:=Hi (HE1.out.below hdr HE1.out.lt);have HKd:=Hi (HK1.out.below hdr HK1.out.lt);have HBd:=Hi (HB1.out.trans (hdr.mono HB1.out.size));have HB0d:=Hi (HB0.out.trans (hdr.mono HB0.out.size));have H1d:=Hi hdr;clear hdr e0 e1 e2 e3 e4 e5 z0 z1 z2 z3 z4 z5 hgl y0 y1 x0 x1 m0 hyl hzl;have hZ0:Below wd.heap.size wd wd:=Below.refl _ _;refine HT.wp_region (Z:=fun w'=>Below wd.heap.size wd w') (S:=fun _=>True) (st:=[]) V1 ?_;rw [hwd];clear hwd;refine HT.k 0 rfl Vz hZ0 ?_;refine HT.k 1 rfl Vz hZ0 ?_;refine HT.k 2 rfl V7 hZ0 ?_;refine HT.k 3 rfl V7 hZ0 ?_;refine HT.one (i:=4) V1 rfl (fun K hK=>?_);go_simp;refine (show Calls Tryz.prog 76 #[.slice (some ⟨bb,o,none⟩) 2 cA,.int .i64 1] wd _ from HAT.out wd HB0d.out).mono ?_;rintro e w5 ⟨rfl,hb5⟩;(try dsimp only);refine hK.out _ _ hb5 trivial ?_;clear hK K;(try simp only [HT.pS]);refine HT.one (i:=5) V1 rfl (fun K hK=>?_);go_simp;refine (show Calls Tryz.prog 33 #[nzA k2 a2 s2 n2 A2 la2 cA2 B2 lb2 cB2] w5 _ from HCE.out w5 (HB0d.out.trans (hb5.mono HB0d.out.size))).mono ?_;rintro e w6 ⟨rfl,hb6⟩;have hz6:=hb5.trans (hb6.mono hb5.size);(try dsimp only);refine hK.out _ _ hz6 trivial ?_;clear hK K;(try simp only [HT.pS]);refine HT.m 6 hz6 ?_;refine HT.m 7 hz6 ?_;refine HT.m 8 hz6 ?_;refine HT.m 9 hz6 ?_;refine HT.m 10 hz6 ?_;refine HT.done V1 ?_;have h16:=H1d.out.trans (hz6.mono H1d.out.size);have hX6:=HX1'.out.below h16 HX1'.out.lt;have hE6:=HE1.out.below h16 HE1.out.lt;have hK6:=HK1.out.below h16 HK1.out.lt;obtain ⟨⟨e0,e1,e2,e3,e4,e5⟩,z0,z1,z2,z3,z4,z5⟩:=Blk.c6 hX6;obtain ⟨y0,y1,x0,x1⟩:=Blk.c2 hE6;have m0:=hK6.cell 0;simp only [List.getElem?_toArray,List.getElem?_cons_zero] at m0;have hgl:=hX6.lt;have hyl:=hE6.lt;have hzl:=hK6.lt;have H16:=Hi h16;have HB6:=Hi (HB1.out.trans (h16.mono HB1.out.size));clear hZ0 hb5 hz6 hb6 hX6 hE6 hK6 h16;cases cy with
   | none=>
    go_wp2_with fail
    go_ret;exact ⟨VL,HB6.out⟩
   | some u=>
    go_wp2_with fail
    refine (show Calls Tryz.prog 77 #[.slice (some ⟨bb,o,none⟩) 2 cA,.func (.func 78) #[] #[.pointer (some ⟨w.heap.size,0,none⟩),.pointer (some ⟨w.heap.size+2,0,none⟩)]] w6 _ from HCF'.out w6 H16.out).mono ?_;rintro e w9 ⟨rfl,hb9⟩;have HB9:=Hi (HB6.out.trans (hb9.mono HB6.out.size));clear hb9;go_wp2_with fail
    go_ret;exact ⟨VL,HB9.out⟩
  by_cases hk5:k = 5
  ·subst hk5;have HR:=Hi (show ((decide (s=[115,101,108]) && decide (l.length = 3)) && !an)=res by have h:=HRES.out;rw [if_neg V2,if_neg V2,if_pos rfl] at h;exact h);clear HRES HHC;by_cases hsel:s=[115,101,108]
   ·subst hsel;by_cases hl3:l.length = 3
    ·have i3:((l.length:Int) != 3)=false:=by simp;omega
     have HR2:=Hi (show (!an)=res by rw [<-HR.out,hl3];rfl);clear HR hl3;have HR:=HR2;clear HR2;exact V2D
    ·have i3:((l.length:Int) != 3)=true:=by simp;omega
     have HR2:=Hi (show false=res by rw [<-HR.out,decide_eq_false hl3];simp);exact VU
   ·have i3:(s != [115,101,108])=true:=by simpa using hsel
    have HR2:=Hi (show false=res by rw [<-HR.out,decide_eq_false hsel];rfl);exact VU
  have HR:=Hi (show (!an)=res from V4m);have i1:(k==1)=false:=V4;have i4:(k==4)=false:=V4;have i5:(k==5)=false:=V4;clear HRES HHC hk1 hk4 hk5;go_wp2_with fail
  refine (show Calls Tryz.prog 77 #[.slice A l.length cA,.func (.func 78) #[] #[.pointer (some ⟨w.heap.size,0,none⟩),.pointer (some ⟨w.heap.size+2,0,none⟩)]] w1 _ from HCF.out w1 (Below.refl _ _)).mono ?_;rintro e w9 ⟨rfl,hb9⟩;have HB9:=Hi (HB1.out.trans (hb9.mono HB1.out.size));clear hb9;go_wp2_with fail
  go_ret;exact ⟨VL,HB9.out⟩
end Ev
end Go.Proofs.YtcgibpdjfgjldaaGreatDoor
