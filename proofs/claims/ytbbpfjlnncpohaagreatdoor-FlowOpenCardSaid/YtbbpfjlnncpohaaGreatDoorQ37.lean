/- DERIVED. FlWo, FlMu, FlCu, FlCx, FlShi. By an AI agent. -/
import Derived.Test.YtbbpfjlnncpohaaGreatDoorQ01
import Derived.Test.YtbbpfjlnncpohaaGreatDoorQ07
import Derived.Test.YtbbpfjlnncpohaaGreatDoorQ36
import Derived.Test.YtbbpfjlnncpohaaGreatDoorQ35
import Derived.Deep.Cut
import Derived.Carry
set_option maxRecDepth 100000
set_option maxHeartbeats 8000000
set_option linter.unusedVariables false
set_option linter.unusedSimpArgs false
namespace Go.Proofs.YtbbpfjlnncpohaaGreatDoor.Fl
open Go Go.ChangeShapes Go.WideShapes Go.ChangeAt Go.RowKit Lx Args Pa Sh Go.Proofs.YtbbpfjlnncpohaaGreatDoor.Nm WMath
mutual
def worB(lo:Lo):Tz→BitVec 32
 | .mk k a s n _ l=>if k = 0 then BitVec.ofNat 32 n else if k = 1 then (lo s).getD 0 else if k = 2 then unB s (worL lo 0 l) else biB s (worL lo 0 l) (worL lo 1 l)
def worL(lo:Lo):Nat→List Tz→BitVec 32
 | _,[]=>0
 | 0,x :: _=>worB lo x
 | i+1,_ :: l=>worL lo i l
end
theorem worL_0(lo:Lo)(x:Tz)(l:List Tz):worL lo 0 (x :: l)=worB lo x:=by unfold worL;rfl
theorem worL_1(lo:Lo)(x y:Tz)(l:List Tz):worL lo 1 (x :: y :: l)=worB lo y:=by unfold worL;exact worL_0 lo y l
theorem worB_mk(lo:Lo)(k a:Int)(s:Bs)(n:Nat)(ps:List Bs)(l:List Tz):worB lo (.mk k a s n ps l)=if k = 0 then BitVec.ofNat 32 n else if k = 1 then (lo s).getD 0 else if k = 2 then unB s (worL lo 0 l) else biB s (worL lo 0 l) (worL lo 1 l):=by conv=>lhs;unfold worB
def WoP(w:World)(x:BitVec 32)(e:Ending)(w':World):Prop:=e = .returned (uV x)∧Below w.heap.size w w'
theorem str_none{lo:Lo}{k a:Int}{s:Bs}{n:Nat}{ps:List Bs}{l:List Tz}(h:strB lo (.mk k a s n ps l)=none):fitB lo k s l.length=true∧strBs lo l=none:=by
 unfold strB at h;by_cases hf:fitB lo k s l.length=true
 ·rw [if_pos hf] at h;exact ⟨hf,h⟩
 ·rw [if_neg hf] at h;cases h
theorem strs_none{lo:Lo}{x:Tz}{l:List Tz}(h:strBs lo (x :: l)=none):strB lo x=none∧strBs lo l=none:=by
 rw [strBs_cons] at h;cases hx:strB lo x with
 | some e=>rw [hx] at h;cases h
 | none=>rw [hx] at h;exact ⟨rfl,h⟩
theorem neg_u(x:BitVec 32):(-(x.toNat:Int)) % 4294967296=((-x).toNat:Int):=by
 have hx:=x.isLt;rw [BitVec.toNat_neg];omega
theorem Pts.cells{w0:World}{A:Option Addr}{c:Nat}{l:List Tz}(h:Pts w0 A c l){i:Nat}{y:Tz}(hy:l[i]?=some y) :
  ∃ b o k a s n A' la cA B lb cB,A=some ⟨b,o,none⟩∧TrV w0 y k a s n A' la cA B lb cB∧b < w0.heap.size∧∀ v,Below w0.heap.size w0 v→v.cell? ⟨b,o+i * 6,none⟩=some (.int .i64 k)∧v.cell? ⟨b,o+i * 6+1,none⟩=some (.string ⟨s.toArray⟩) ∧
   v.cell? ⟨b,o+i * 6+2,none⟩=some (.int .u32 (n:Int))∧v.cell? ⟨b,o+i * 6+3,none⟩=some (.int .i64 a)∧v.cell? ⟨b,o+i * 6+4,none⟩=some (.slice A' la cA)∧v.cell? ⟨b,o+i * 6+5,none⟩=some (.slice B lb cB):=by
 obtain ⟨b,o,k,a,s,n,A',la,cA,B,lb,cB,h1,h2,h3,e0,e1,e2,e3,e4,e5⟩:=h.at_ (Below.refl _ _) hy;exact ⟨b,o,k,a,s,n,A',la,cA,B,lb,cB,h1,h2,h3,fun v hv=>⟨(hv.cell h3).trans e0,(hv.cell h3).trans e1,(hv.cell h3).trans e2,(hv.cell h3).trans e3,(hv.cell h3).trans e4,(hv.cell h3).trans e5⟩⟩
theorem worth{w0:World}{b q:Nat}{kn:Kw}:∀ (m:Nat) (z:Tz),SizeOf.sizeOf z < m→∀ (w:World) (k a:Int) (s:Bs) (n:Nat) (A:Option Addr) (la cA:Nat) (B:Option Addr) (lb cB:Nat),Below w0.heap.size w0 w→MpW w b q kn→TrV w0 z k a s n A la cA B lb cB→strB (looB kn) z=none →
  Calls Tryz.prog 71 #[nzA k a s n A la cA B lb cB,nuV b] w (WoP w (worB (looB kn) z))
 | 0,z,h=>absurd h (Nat.not_lt_zero _)
 | m+1,.mk k1 a1 s1 n1 ps l,hm=>fun w k a s n A la cA B lb cB hb hM hT hst=>by
  obtain ⟨rfl,rfl,rfl,rfl,rfl,rfl,hP,hs,hn,-,-,-,-⟩:=hT.parts;obtain ⟨hfit,hsts⟩:=str_none hst;obtain ⟨w1,hw1,hb1,hX1,hs1⟩:=a_box w (nB k a s n A l.length cA B ps.length cB);have hM1:=hM.upd (Upd.of_below hb1 fun _=>False) id;have IH:=Hi (worth (w0:=w0) (b:=b) (q:=q) (kn:=kn) m);have HB1:=Hi hb1;have HW1:=Hi hw1;have HX1':=Hi hX1;have HM1:=Hi hM1;have HP:=Hi hP;have HB0:=Hi (hb.trans (hb1.mono hb.size));have HM:=Hi hm;obtain ⟨⟨e0,e1,e2,e3,e4,e5⟩,z0,z1,z2,z3,z4,z5⟩:=Blk.c6 hX1;have hen:∀ w:World,(callFunc 72 #[.map (some b),.string ⟨s.toArray⟩]).run Tryz.prog w = .ok (.enter 72 #[.map (some b),.string ⟨s.toArray⟩]) w:=fun _=>by kernel_rfl
  have HN:=Hi (number w1 b q kn hM1 s hs);obtain ⟨res,hres⟩:∃ res,worB (looB kn) (.mk k a s n ps l)=res:=⟨_,rfl⟩;rw [hres];rw [worB_mk] at hres;have HRES:=Hi hres;have hgl:=hX1.lt;have HSTS:=Hi hsts;have HN32:=Hi hn;clear hb hM hT hP hb1 hw1 hX1 hM1 hm hs1 hs hres hst hsts hn;go_enter Tryz.func71,Tryz.ntmps71;go_upto_region 1 with fail
  rw [HW1.out];by_cases hk0:k = 0
  ·subst hk0;have HR:=Hi (show BitVec.ofNat 32 n=res by rw [←HRES.out,if_pos rfl]);clear HRES HN IH hfit;go_wp2_with fail
   go_ret;refine ⟨?_,HB1.out⟩;have e:((res.toNat:Nat):Int)=(n:Int):=by rw [←HR.out,BitVec.toNat_ofNat,Nat.mod_eq_of_lt HN32.out]
   show Ending.returned (.int .u32 (n:Int)) = .returned (.int .u32 (res.toNat:Int));rw [e]
  by_cases hk1:k = 1
  ·subst hk1;have HR:=Hi (show (looB kn s).getD 0=res by rw [←HRES.out,if_neg (by decide),if_pos rfl]);unfold NumP loN at HN;rw [HR.out] at HN;clear HRES IH hfit HR;generalize (looB kn s).isSome=q1 at HN;go_wp2_with fail
   refine (show Calls Tryz.prog 72 #[.map (some b),.string ⟨s.toArray⟩] w1 _ from HN.out).mono ?_;rintro e w5 ⟨rfl,hb5⟩;have HB5:=Hi (HB1.out.trans (hb5.mono HB1.out.size));clear hb5;go_wp2_with fail
   go_ret;exact ⟨rfl,HB5.out⟩
  clear HN hen;by_cases hk2:k = 2
  ·subst hk2;have hl1:l.length = 1:=by
    unfold fitB at hfit;rw [if_neg (by decide),if_neg (by decide),if_pos rfl,Bool.and_eq_true] at hfit;exact of_decide_eq_true hfit.1
   obtain ⟨x,rfl⟩:∃ x,l=[x]:=by
    match l,hl1 with
    | [x],_=>exact ⟨x,rfl⟩
   obtain ⟨bb,o,k',a',s',n',A',la',cA',B',lb',cB',hA,hTy,hbl,hcel⟩:=HP.out.cells (i:=0) (y:=x) rfl;subst hA;simp only [Nat.zero_mul,Nat.add_zero] at hcel;obtain ⟨g0,g1,g2,g3,g4,g5⟩:=hcel w1 HB0.out;have hsy:SizeOf.sizeOf x < m:=by have:=size_memz (k:=2) (a:=a) (n:=n) (s:=s) (ps:=ps) (l:=[x]) (i:=0) (x:=x) rfl;have:=HM.out;omega
   have hC:=IH.out x hsy w1 k' a' s' n' A' la' cA' B' lb' cB' HB0.out HM1.out hTy (strs_none HSTS.out).1;have HR:=Hi (show unB s (worB (looB kn) x)=res by rw [←HRES.out,if_neg (by decide),if_neg (by decide),if_pos rfl,worL_0]);generalize worB (looB kn) x=x2 at hC HR;have HC:=Hi hC;have hbl2:bb < w1.heap.size:=Nat.lt_of_lt_of_le hbl HB0.out.size;have HNE:=Hi (neg_u x2);have HX1':=Hi (show Blk w1 w.heap.size 26 (nB 2 a s n (some ⟨bb,o,none⟩) 1 cA B ps.length cB) from HX1'.out);have e4:w1.cell? ⟨w.heap.size,4,none⟩=some (.slice (some ⟨bb,o,none⟩) 1 cA):=e4;clear HRES hC hcel hTy hsy hfit IH;go_wp2_with fail
   refine (show Calls Tryz.prog 71 #[nzA k' a' s' n' A' la' cA' B' lb' cB',nuV b] w1 _ from HC.out).mono ?_;rintro e w5 ⟨rfl,hb5⟩;have HB5:=Hi (HB1.out.trans (hb5.mono HB1.out.size));have hX5:=HX1'.out.below hb5 HX1'.out.lt;clear e0 e1 e2 e3 e4 e5 z0 z1 z2 z3 z4 z5 g0 g1 g2 g3 g4 g5;obtain ⟨⟨e0,e1,e2,e3,e4,e5⟩,z0,z1,z2,z3,z4,z5⟩:=Blk.c6 hX5;have hgl5:=hX5.lt;clear hb5 hX5;by_cases h126:s=[126]
   ·subst h126;have HR2:=Hi (show ~~~x2=res from HR.out);clear HR;have hun:=un_not x2;go_wp2_with fail
    go_ret;refine ⟨?_,HB5.out⟩;rw [←HR2.out];show Ending.returned (.int .u32 ((4294967295 - x2.toNat:Nat):Int))=_;rw [show 4294967295 - x2.toNat=(~~~x2).toNat from (BitVec.toNat_not (x:=x2)).symm]
   ·have HR2:=Hi (show -x2=res by rw [←HR.out];unfold unB;rw [if_neg h126]);have f126:(s==[126])=false:=by simpa using h126
    clear HR;go_wp2_with fail
    go_ret;refine ⟨?_,HB5.out⟩;rw [←HR2.out];show Ending.returned (.int .u32 ((-(x2.toNat:Int)) % 4294967296))=_;rw [HNE.out]
  have hk34:k = 3∨k = 4:=by
   by_cases h3:k = 3
   ·exact .inl h3
   by_cases h4:k = 4
   ·exact .inr h4
   exfalso;unfold fitB at hfit;rw [if_neg hk0,if_neg hk1,if_neg hk2,if_neg h3,if_neg h4] at hfit;cases hfit
  have hl2:l.length = 2:=by
   unfold fitB at hfit;rw [if_neg hk0,if_neg hk1,if_neg hk2] at hfit;rcases hk34 with rfl | rfl
   ·rw [if_pos rfl,Bool.and_eq_true] at hfit;exact of_decide_eq_true hfit.1
   ·rw [if_neg (by decide),if_pos rfl,Bool.and_eq_true] at hfit;exact of_decide_eq_true hfit.1
  obtain ⟨x,y,rfl⟩:∃ x y,l=[x,y]:=by
   match l,hl2 with
   | [x,y],_=>exact ⟨x,y,rfl⟩
  obtain ⟨bb,o,k',a',s',n',A',la',cA',B',lb',cB',hA,hTy,hbl,hcel⟩:=HP.out.cells (i:=0) (y:=x) rfl;subst hA;simp only [Nat.zero_mul,Nat.add_zero] at hcel;obtain ⟨bb2,o2,k2,a2,s2,n2,A2,la2,cA2,B2,lb2,cB2,hA2,hTy2,hbl2,hcel2⟩:=HP.out.cells (i:=1) (y:=y) rfl;simp only [Option.some.injEq,Addr.mk.injEq,and_true] at hA2;obtain ⟨rfl,rfl⟩:=hA2;simp only [Nat.one_mul,Nat.add_assoc,Nat.reduceAdd] at hcel2;obtain ⟨hst1,hst2⟩:=strs_none HSTS.out;have hsy:SizeOf.sizeOf x < m:=by have:=size_memz (k:=k) (a:=a) (n:=n) (s:=s) (ps:=ps) (l:=[x,y]) (i:=0) (x:=x) rfl;have:=HM.out;omega
  have hsy2:SizeOf.sizeOf y < m:=by have:=size_memz (k:=k) (a:=a) (n:=n) (s:=s) (ps:=ps) (l:=[x,y]) (i:=1) (x:=y) rfl;have:=HM.out;omega
  have HCX:=Hi fun v (hv:Below w0.heap.size w0 v) (hMv:MpW v b q kn)=>IH.out x hsy v k' a' s' n' A' la' cA' B' lb' cB' hv hMv hTy hst1
  have HCY:=Hi fun v (hv:Below w0.heap.size w0 v) (hMv:MpW v b q kn)=>IH.out y hsy2 v k2 a2 s2 n2 A2 la2 cA2 B2 lb2 cB2 hv hMv hTy2 (strs_none hst2).1
  have HR:=Hi (show biB s (worB (looB kn) x) (worB (looB kn) y)=res by rw [←HRES.out,if_neg hk0,if_neg hk1,if_neg hk2,worL_0,worL_1]);generalize worB (looB kn) x=x2 at HCX HR;generalize worB (looB kn) y=y2 at HCY HR;have HX0:=Hi hcel;have HX1:=Hi hcel2;have HLB:=Hi hbl;have i0:(k==0)=false:=by simp;omega
  have i1:(k==1)=false:=by simp;omega
  have i2:(k==2)=false:=by simp;omega
  have HX1':=Hi (show Blk w1 w.heap.size 26 (nB k a s n (some ⟨bb,o,none⟩) 2 cA B ps.length cB) from HX1'.out);clear HRES hcel hcel2 hTy hTy2 hsy hsy2 hfit IH hst1 hst2 hk0 hk1 hk2 hk34 hbl hbl2 hl2;go_wp2_with fail
  have hdr:Below w1.heap.size w1 w1.drew:=Below.drew (Below.refl _ _);obtain ⟨wd,hwd⟩:∃ v,w1.drew=v:=⟨_,rfl⟩;rw [hwd] at hdr;have HXd:=Hi (HX1'.out.below hdr HX1'.out.lt);have HBd:=Hi (HB1.out.trans (hdr.mono HB1.out.size));have HB0d:=Hi (HB0.out.trans (hdr.mono HB0.out.size));have HMd:=Hi (HM1.out.upd (Upd.of_below hdr fun _=>False) id);clear hdr e0 e1 e2 e3 e4 e5 z0 z1 z2 z3 z4 z5 hgl;have hZ0:Below wd.heap.size wd wd:=Below.refl _ _;refine HT.wp_region (Z:=fun w'=>Below wd.heap.size wd w') (S:=fun _=>True) (st:=[]) (by kernel_rfl) ?_;rw [hwd];clear hwd;refine HT.tk 0 rfl (by intro v hSw;have hA:=HXd.out.below hSw HXd.out.lt;have E_:=Blk.c6 hA;have hga:=hA.lt;clear hSw hA;go_simp;try with_reducible rfl) hZ0 HT.tr ?_;refine HT.tk 1 rfl (by intro v hSw;have hA:=HXd.out.below hSw HXd.out.lt;have E_:=Blk.c6 hA;have hga:=hA.lt;clear hSw hA;go_simp;try with_reducible rfl) hZ0 HT.tr ?_;refine HT.tk 2 rfl (by intro v hSw;have hA:=HXd.out.below hSw HXd.out.lt;have E_:=Blk.c6 hA;have hga:=hA.lt;clear hSw hA;go_simp;try with_reducible rfl) hZ0 HT.tr ?_;refine HT.tk 3 rfl (by intro v hSw;have hA:=HXd.out.below hSw HXd.out.lt;have E_:=Blk.c6 hA;have hga:=hA.lt;clear hSw hA;go_simp;try with_reducible rfl) hZ0 HT.tr ?_;refine HT.tm 4 rfl hZ0 HT.tr ?_;refine HT.tk 5 rfl (by intro v hSw;have hbv:=HB0d.out.trans (hSw.mono HB0d.out.size);obtain ⟨g0,g1,g2,g3,g4,g5⟩:=HX0.out v hbv;have hgb:=Nat.lt_of_lt_of_le HLB.out hbv.size;clear hSw hbv;go_simp;try with_reducible rfl) hZ0 HT.tr ?_;refine HT.tm 6 rfl hZ0 HT.tr ?_;refine HT.tk 8 rfl (by intro v hSw;have hA:=HXd.out.below hSw HXd.out.lt;have E_:=Blk.c6 hA;have hga:=hA.lt;clear hSw hA;go_simp;try with_reducible rfl) hZ0 HT.tr ?_;refine HT.tk 9 rfl (by intro v hSw;have hA:=HXd.out.below hSw HXd.out.lt;have E_:=Blk.c6 hA;have hga:=hA.lt;clear hSw hA;go_simp;try with_reducible rfl) hZ0 HT.tr ?_;refine HT.tm 10 rfl hZ0 HT.tr ?_;refine HT.tk 11 rfl (by intro v hSw;have hbv:=HB0d.out.trans (hSw.mono HB0d.out.size);obtain ⟨g0,g1,g2,g3,g4,g5⟩:=HX1.out v hbv;have hgb:=Nat.lt_of_lt_of_le HLB.out hbv.size;clear hSw hbv;go_simp;try with_reducible rfl) hZ0 HT.tr ?_;refine HT.tm 12 rfl hZ0 HT.tr ?_;refine HT.one (i:=7) (by kernel_rfl) rfl (fun K hK=>?_);go_simp;refine (show Calls Tryz.prog 71 #[nzA k' a' s' n' A' la' cA' B' lb' cB',nuV b] wd _ from HCX.out wd HB0d.out HMd.out).mono ?_;rintro e w5 ⟨rfl,hb5⟩;(try dsimp only);refine hK.out _ _ hb5 trivial ?_;clear hK K;(try simp only [HT.pS]);refine HT.one (i:=13) (by kernel_rfl) rfl (fun K hK=>?_);go_simp;refine (show Calls Tryz.prog 71 #[nzA k2 a2 s2 n2 A2 la2 cA2 B2 lb2 cB2,nuV b] w5 _ from HCY.out w5 (HB0d.out.trans (hb5.mono HB0d.out.size)) (HMd.out.upd (Upd.of_below hb5 fun _=>False) id)).mono ?_;rintro e w6 ⟨rfl,hb6⟩;have hz6:=hb5.trans (hb6.mono hb5.size);(try dsimp only);refine hK.out _ _ hz6 trivial ?_;clear hK K;(try simp only [HT.pS]);refine HT.one (i:=14) (by kernel_rfl) rfl (fun K hK=>?_);go_simp;refine (joined w6 s x2 y2).mono ?_;rintro e w7 ⟨rfl,hb7⟩;have hz7:=hz6.trans (hb7.mono hz6.size);rw [HR.out];(try dsimp only);refine hK.out _ _ hz7 trivial ?_;clear hK K;(try simp only [HT.pS]);refine HT.tm 15 rfl hz7 HT.tr ?_;refine HT.done (by kernel_rfl) ?_;have HEND:=Hi (HBd.out.trans (hz7.mono HBd.out.size));clear hZ0 hb5 hz6 hz7 hb6 hb7;go_wp2_with fail
  go_ret;exact ⟨rfl,HEND.out⟩
end Go.Proofs.YtbbpfjlnncpohaaGreatDoor.Fl
namespace Go.Proofs.YtbbpfjlnncpohaaGreatDoor.Fl
open Go Go.ChangeShapes Go.WideShapes Go.ChangeAt Go.RowKit Lx Args Pa Sh Go.Proofs.YtbbpfjlnncpohaaGreatDoor.Nm
section
def MuP(w:World)(kn:Kw)(o:Option (Int×Int×Bs))(e:Ending)(w':World):Prop:=
 match o with
 | none=>e = .returned (.tuple #[])∧Below w.heap.size w w'
 | some x=>e=panF x.2.1 (badB kn x)∧Below w.heap.size w w'
theorem fFa0(a b:Bool)(n:Int)(w:World):(Instr.field 104 (.agg #[.bool a,.bool b,.int .u32 n]) 0).run Tryz.prog w = .ok (.bool a) w:=by kernel_rfl
attribute [local go_sem] fFa0
theorem mustBe{w0:World}{b q:Nat}{kn:Kw}(w:World)(z:Tz)(k a:Int)(s:Bs)(n:Nat)(A:Option Addr)(la cA:Nat)(B:Option Addr)(lb cB:Nat)(hb:Below w0.heap.size w0 w)(hM:MpW w b q kn)(hT:TrV w0 z k a s n A la cA B lb cB) :
  Calls Tryz.prog 70 #[nzA k a s n A la cA B lb cB,.map (some b)] w (MuP w kn (strB (looB kn) z)):=by
 obtain ⟨w1,hw1,hb1,hX1,hs1⟩:=a_box w (nB k a s n A la cA B lb cB);have hM1:=hM.upd (Upd.of_below hb1 fun _=>False) id;have HC:=Hi (stray (w0:=w0) (b:=b) (q:=q) (kn:=kn) (SizeOf.sizeOf z+1) z (Nat.lt_succ_self _) w1 k a s n A la cA B lb cB (hb.trans (hb1.mono hb.size)) hM1 hT);have HB1:=Hi hb1;have HW1:=Hi hw1;have HM1:=Hi hM1;have hmf:∀ (fn:Fn) (first cap:Array Value) (w:World),(Instr.makeFunc fn first cap).run Tryz.prog w = .ok (.func fn first cap) w:=fun _ _ _ _=>rfl
 obtain ⟨⟨e0,e1,e2,e3,e4,e5⟩,z0,z1,z2,z3,z4,z5⟩:=Blk.c6 hX1;obtain ⟨res,hres⟩:∃ res,strB (looB kn) z=res:=⟨_,rfl⟩;rw [hres] at HC ⊢;clear hb hM hT hw1 hb1 hX1 hs1 hM1 hres;go_enter Tryz.func70,Tryz.ntmps70;go_wp2_with fail
 rw [HW1.out];refine (show Calls Tryz.prog 90 #[nzA k a s n A la cA B lb cB,nuV b] w1 _ from HC.out).mono ?_;intro e w2 h2;clear e0 e1 e2 e3 e4 e5 z0 z1 z2 z3 z4 z5;cases res with
 | none=>
  obtain ⟨rfl,hb2⟩:=h2;obtain ⟨w3,hw3,hb3,hX3,hs3⟩:=a_box w2 #[.int .i64 0,.string ⟨#[]⟩,.int .u32 0,.int .i64 0,.slice none 0 0,.slice none 0 0];have HB3:=Hi (HB1.out.trans ((hb2.trans (hb3.mono hb2.size)).mono HB1.out.size));have HW3:=Hi hw3;clear hb2 hw3 hb3 hX3 hs3;go_upto_region 2 with fail
  rw [HW3.out];go_wp2_with fail
  first | go_end0 | skip
  all_goals first | exact ⟨rfl,HB3.out⟩ | exact bodyPost_ret (results_none rfl _ _ _) rfl ⟨rfl,HB3.out⟩
 | some x=>
  obtain ⟨k2,a2,s2⟩:=x;obtain ⟨hs2,⟨n2,A2,la2,cA2,B2,lb2,cB2,rfl⟩,hb2⟩:=h2;obtain ⟨w3,hw3,hb3,hX3,hs3⟩:=a_box w2 (nB k2 a2 s2 n2 A2 la2 cA2 B2 lb2 cB2);have hb13:=hb2.trans (hb3.mono hb2.size);have HB3:=Hi (HB1.out.trans (hb13.mono HB1.out.size));have HW3:=Hi hw3;have hrun:=mpw_look1 (HM1.out.upd (Upd.of_below hb13 fun _=>False) id) hs2;unfold wkV at hrun;rw [wkAt_sec] at hrun;obtain ⟨⟨e0,e1,e2,e3,e4,e5⟩,z0,z1,z2,z3,z4,z5⟩:=Blk.c6 hX3;obtain ⟨er,her⟩:∃ er,badB kn (k2,a2,s2)=er:=⟨_,rfl⟩;have hbad:(if k2 = 1∧secB kn s2=true then 130 else 120)=er:=her;have HER:=Hi her;have HBAD:=Hi hbad;clear hb2 hw3 hb3 hX3 hs3 hb13 her hbad;generalize (wkAt kn s2).loo.isSome=l1 at hrun;generalize loN (wkAt kn s2).loo=l2 at hrun;generalize secB kn s2=sc at hrun HBAD;by_cases hk1:k2 = 1
  ·subst hk1;cases sc with
   | true=>
    have HE2:=Hi (show 130=er from HBAD.out);go_upto_region 2 with fail
    rw [HW3.out];go_wp2_with fail
    exact ⟨rfl,by show panF a2 130=panF a2 (badB kn (1,a2,s2));rw [HER.out,HE2.out],HB3.out⟩
   | false=>
    have HE2:=Hi (show 120=er from HBAD.out);go_upto_region 2 with fail
    rw [HW3.out];go_wp2_with fail
    exact ⟨rfl,by show panF a2 120=panF a2 (badB kn (1,a2,s2));rw [HER.out,HE2.out],HB3.out⟩
  ·have hi:(k2==1)=false:=by simpa using hk1
   have HE2:=Hi (show 120=er by rw [←HBAD.out,if_neg (fun h=>hk1 h.1)]);clear hk1 hrun;go_upto_region 2 with fail
   rw [HW3.out];go_wp2_with fail
   exact ⟨rfl,by show panF a2 120=panF a2 (badB kn (k2,a2,s2));rw [HER.out,HE2.out],HB3.out⟩
end
/-! The first parts, and those behind. -/
def FCut(w:World)(A:Option Addr)(n k:Nat)(e:Ending)(w':World):Prop:=∃ A1 c1 A2 c2,e = .returned (.tuple #[.slice A1 (min k n) c1,.slice A2 (n - k) c2])∧(min k n≤c1∧c1≤maxLen)∧(n - k≤c2∧c2≤maxLen)∧(∀ W xs,Lies W A xs→Lies W A1 xs)∧(0 < n - k→∀ W xs,Lies W A xs→Lies W A2 (xs.drop (k * 6)))∧Below w.heap.size w w'
theorem fcut(w:World)(A:Option Addr)(n c k:Nat)(hn:n≤c)(hc:c≤maxLen)(hk:k≤2) :
  Calls Tryz.prog 45 #[.slice A n c,.int .i64 (k:Int)] w (FCut w A n k):=by
 have hcm:c≤9223372036854775807:=hc;have HC:=Hi hc;rcases Nat.lt_or_ge n k with hlt | hge
 ·have h1:(n:Int) < (k:Int):=by omega
  have h2:(0:Int)≤(n:Int):=by omega
  have h3:(n:Int)≤(c:Int):=by omega
  have hm:min k n=n:=by omega
  have hd:n - k = 0:=by omega
  go_enter Tryz.func45,Tryz.ntmps45;go_wp2_with fail
  go_region
  go_wp2_with fail
  all_goals (
   (try simp only [show min (k:Int) (n:Int) = (n:Int) by omega,Int.toNat_natCast,Nat.sub_self]);go_ret2
   unfold FCut;rw [hm,hd];exact ⟨_,_,_,_,rfl,⟨by omega,by unfold maxLen;omega⟩,⟨Nat.zero_le _,by unfold maxLen;omega⟩,fun _ _ h=>h,fun h=>absurd h (Nat.lt_irrefl _),Below.drew (Below.refl _ _)⟩)
 ·have h1:¬ (n:Int) < (k:Int):=by omega
  have h2:(0:Int)≤(k:Int):=by omega
  have h3:(k:Int)≤(c:Int):=by omega
  have h4:(k:Int)≤(n:Int):=by omega
  have hm:min k n=k:=by omega
  go_enter Tryz.func45,Tryz.ntmps45;go_wp2_with fail
  go_region
  go_wp2_with fail
  all_goals (
   (try simp only [show min (k:Int) (n:Int) = (k:Int) by omega,Int.toNat_natCast]);go_ret2
   unfold FCut;rw [hm];refine ⟨_,_,_,_,rfl,⟨by omega,by unfold maxLen;omega⟩,⟨by omega,by unfold maxLen;omega⟩,fun _ _ h=>?_,fun hd W xs hL=>?_,Below.drew (Below.refl _ _)⟩
   ·first | exact h | exact lies_0 h | (split <;> first | exact h | exact lies_0 h)
   ·first | exact lies_add hL (k * 6) | (exfalso;omega))
structure Cx(w0:World)(g fb kb:Nat)(fu:Fu)(kn:Kw)(w:World):Prop where
 bel:Below w0.heap.size w0 w
 low:w0.heap.size≤g
 fun_:∃ m,FuM w0 w fb m fu
 kno:∃ m,MpW w kb m kn
 nef:fb≠g
 nek:kb≠g
 fok:okF fu fu
theorem Cx.upd{w0 w w':World}{g fb kb:Nat}{fu:Fu}{kn:Kw}(h:Cx w0 g fb kb fu kn w)(hu:Upd (fun b=>b=g) w w'):Cx w0 g fb kb fu kn w':=by
 obtain ⟨h1,h2,⟨m,h3⟩,⟨m',h4⟩,h5,h6,h7⟩:=h;exact ⟨h1.trans (hu.below (B:=w0.heap.size) h1.size fun b hb=>by omega),h2,⟨m,h3.upd hu h5⟩,⟨m',h4.upd hu h6⟩,h5,h6,h7⟩
theorem Cx.below{w0 w w':World}{g fb kb:Nat}{fu:Fu}{kn:Kw}(h:Cx w0 g fb kb fu kn w)(hb:Below w.heap.size w w'):Cx w0 g fb kb fu kn w':=h.upd (Upd.of_below hb _)
structure Bx where
 vk:Value
 fb:Nat
 vl:Value
 vr:Value
 rd:Int
abbrev bxA(x:Bx)(nd ca:Int):Array Value:=#[x.vk,.map (some x.fb),x.vl,x.vr,.int .i64 x.rd,.int .i64 nd,.int .i64 ca]
def XP(g:Nat)(x:Bx)(ca:Int)(w:World)(r:Rf (Bool×Int))(e:Ending)(w':World):Prop:=
 match r with
 | .ok q=>e = .returned (.bool q.1)∧Blk w' g 87 (bxA x q.2 ca)∧Upd (fun b=>b=g) w w'
 | .bad a er=>e=panF a er∧Upd (fun b=>b=g) w w'
theorem XP.from{g:Nat}{x:Bx}{ca:Int}{w w1 w':World}{r:Rf (Bool×Int)}{e:Ending}(h:XP g x ca w1 r e w')(hu:Upd (fun b=>b=g) w w1):XP g x ca w r e w':=by
 cases r with
 | ok q=>exact ⟨h.1,h.2.1,hu.trans h.2.2⟩
 | bad a er=>exact ⟨h.1,hu.trans h.2⟩
abbrev XM:Int:=20000
abbrev xC(fu:Fu)(c:Nat):Sub:=exC worB XM fu c
def XAt(w0:World)(g:Nat)(fu:Fu)(c:Nat)(z:Tz):Prop:=
 ∀ (x:Bx) (w:World) (kb:Nat) (kn:Kw) (nd ca:Int) (k a:Int) (s:Bs) (n:Nat) (A:Option Addr) (la cA:Nat) (B:Option Addr) (lb cB:Nat),ca+(c:Int) = 61→Cx w0 g x.fb kb fu kn w→TrV w0 z k a s n A la cA B lb cB→okC fu z→Blk w g 87 (bxA x nd ca) →
  Calls Tryz.prog 89 #[.pointer (some ⟨g,0,none⟩),nzA k a s n A la cA B lb cB,.map (some kb)] w (XP g x ca w (xC fu c kn z nd))
def XsP(g:Nat)(x:Bx)(ca:Int)(w:World)(r:Rf (List Bool×Int))(e:Ending)(w':World):Prop:=XP g x ca w (bndF r fun q=>.ok (q.1.any id,q.2)) e w'
theorem any_snoc(bs:List Bool)(b:Bool):(bs ++ [b]).any id=(b || bs.any id):=by
 rw [List.any_append];simp [Bool.or_comm]
theorem exprs_{w0:World}{g:Nat}{fu:Fu}{c:Nat}(l:List Tz)(H:∀ y∈l,XAt w0 g fu c y)(x:Bx)(w:World)(kb:Nat)(kn:Kw)(nd ca:Int)(A:Option Addr)(cA:Nat)(hca:ca+(c:Int) = 61)(hC:Cx w0 g x.fb kb fu kn w)(hP:Pts w0 A cA l)(hok:okCs fu l)(hB:Blk w g 87 (bxA x nd ca)) :
  Calls Tryz.prog 69 #[.pointer (some ⟨g,0,none⟩),.slice A l.length cA,.map (some kb)] w (XsP g x ca w (seqB (xC fu c kn) l nd)):=by
 have hlm:l.length≤9223372036854775807:=Nat.le_trans hP.le hP.cap;have HH:=Hi H;have HC:=Hi hC;have HP:=Hi hP;have HOK:=Hi hok;have HB:=Hi hB;have HCA:=Hi hca;obtain ⟨res,hres⟩:∃ res,bndF (seqB (xC fu c kn) l nd) (fun q=>.ok (q.1.any id,q.2))=res:=⟨_,rfl⟩;unfold XsP;rw [hres];have HRES:=Hi hres;clear H hC hP hok hB hres hca;go_enter Tryz.func69,Tryz.ntmps69;go_wp2_with fail
 go_loopw [7,12] (fun vs vi wr=>∃ (i:Nat) (bs:List Bool) (sc:Bool) (ndi:Int),i≤l.length∧vs = .bool sc∧vi = .int .i64 (i:Int)∧Hid (sc=bs.any id)∧Hid (Blk wr g 87 (bxA x ndi ca))∧Hid (Upd (fun b=>b=g) w wr)∧Hid (bndF (seqB (xC fu c kn) (l.drop i) ndi) (fun q=>.ok ((bs ++ q.1).any id,q.2))=res)) (fun _ vi _=>l.length - (intOf vi).toNat)
 case atStart=>exact ⟨0,[],false,nd,by omega,rfl,rfl,Hi rfl,HB,Hi (Upd.refl _ _),HRES⟩
 case round=>
  obtain ⟨i,bs,sc,ndi,hi,rfl,rfl,HS,HBr,HU,HQ⟩:=hrel;have HCr:=Hi (HC.out.upd HU.out);by_cases hlt:i < l.length
  ·have hil:(i:Int) < (l.length:Int):=by omega
   obtain ⟨y,hy⟩:∃ y,l[i]?=some y:=⟨_,List.getElem?_eq_getElem hlt⟩;obtain ⟨bb,o,k',a',s',n',A',la',cA',B',lb',cB',hA,hTy,hbl,g0',g1,g2,g3,g4,g5⟩:=HP.out.at_ HCr.out.bel hy;subst hA;obtain ⟨wb,hwb,hbb,hXb,hsb⟩:=a_box wr (nB k' a' s' n' A' la' cA' B' lb' cB');have hgb:=HBr.out.lt;have hCc:=HH.out y (List.mem_of_getElem? hy) x wb kb kn ndi ca k' a' s' n' A' la' cA' B' lb' cB' HCA.out (HCr.out.below hbb) hTy (okCs_at HOK.out hy) (HBr.out.below hbb hgb);have hq:=HQ.out;rw [drop_at hy,seqB_cons,bnd_assoc] at hq;obtain ⟨⟨e0,e1,e2,e3,e4,e5⟩,z0,z1,z2,z3,z4,z5⟩:=Blk.c6 hXb;have HCC:=Hi hCc;have HWB:=Hi hwb;have HQ2:=Hi hq;have HUB:=Hi (HU.out.trans (Upd.of_below hbb _));have hbl2:bb < wr.heap.size:=Nat.lt_of_lt_of_le hbl HCr.out.bel.size;clear hCc hwb hbb hXb hq hTy hy hsb;generalize xC fu c kn y ndi=r2 at HCC HQ2;go_wp2_with fail
   rw [HWB.out];refine (show Calls Tryz.prog 89 #[.pointer (some ⟨g,0,none⟩),nzA k' a' s' n' A' la' cA' B' lb' cB',.map (some kb)] wb _ from HCC.out).mono ?_;intro e w4 h4;clear e0 e1 e2 e3 e4 e5 z0 z1 z2 z3 z4 z5;cases r2 with
   | bad a2 er2=>
    obtain ⟨rfl,hu4⟩:=h4;have HEND:=Hi (show XP g x ca w res (panF a2 er2) w4 from by
     rw [←show Rf.bad a2 er2=res from HQ2.out];exact ⟨rfl,HUB.out.trans hu4⟩)
    clear hu4;go_wp2_with fail
    exact ⟨rfl,HEND.out⟩
   | ok q=>
    obtain ⟨b2,nd2⟩:=q;obtain ⟨rfl,hB4,hu4⟩:=h4;have HB4:=Hi hB4;have HU4:=Hi (HUB.out.trans hu4);have HS4:=Hi (show (b2 || sc)=(bs ++ [b2]).any id by rw [any_snoc,HS.out]);have HQ3:=Hi (show bndF (seqB (xC fu c kn) (l.drop (i+1)) nd2) (fun q=>.ok (((bs ++ [b2]) ++ q.1).any id,q.2))=res by
     rw [←HQ2.out];show _=bndF (bndF (seqB (xC fu c kn) (l.drop (i+1)) nd2) fun r=>.ok (b2 :: r.1,r.2)) fun q=>.ok ((bs ++ q.1).any id,q.2)
     rw [bnd_assoc]
     congr 1
     funext r
     show _=Rf.ok ((bs ++ b2 :: r.1).any id,r.2);rw [List.append_assoc];rfl)
    clear hB4 hu4;cases b2 with
    | true=>
     go_wp2_with fail
     go_roundw
     case rel=>exact ⟨i+1,bs ++ [true],true,nd2,by omega,rfl,by go_num,HS4,HB4,HU4,HQ3⟩
     case measure=>simp [intOf];omega
    | false=>
     go_wp2_with fail
     go_roundw
     case rel=>exact ⟨i+1,bs ++ [false],sc,nd2,by omega,rfl,by go_num,HS4,HB4,HU4,HQ3⟩
     case measure=>simp [intOf];omega
  ·obtain rfl:i=l.length:=by omega
   have hq:=HQ.out;rw [List.drop_length,seqB_nil] at hq;have hq':Rf.ok ((bs ++ []).any id,ndi)=res:=hq;rw [List.append_nil,←HS.out] at hq';have HEND:=Hi (show XP g x ca w res (.returned (.bool sc)) wr from by rw [←hq'];exact ⟨rfl,HBr.out,HU.out⟩);clear hq hq';go_wp2_with fail
   go_ret;exact HEND.out
def CutL(w0:World)(l:List Tz)(k:Nat)(w:World)(e:Ending)(w':World):Prop:=
 ∃ (l1 l2:List Tz) (A1:Option Addr) (c1:Nat) (A2:Option Addr) (c2:Nat),l1=l.take k∧l2=l.drop k∧e = .returned (.tuple #[.slice A1 l1.length c1,.slice A2 l2.length c2])∧Pts w0 A1 c1 l1∧Pts w0 A2 c2 l2∧Below w.heap.size w w'
theorem cutL{w0:World}{A:Option Addr}{c:Nat}{l:List Tz}(w:World)(k:Nat)(hP:Pts w0 A c l)(hk:k≤2):Calls Tryz.prog 45 #[.slice A l.length c,.int .i64 (k:Int)] w (CutL w0 l k w):=by
 refine (fcut w A l.length c k hP.le hP.cap hk).mono fun e w' h=>?_
 obtain ⟨A1,c1,A2,c2,rfl,⟨h1,h2⟩,⟨h3,h4⟩,h5,h6,hb⟩:=h;have e1:min k l.length=(l.take k).length:=by rw [List.length_take]
 have e2:l.length - k=(l.drop k).length:=by rw [List.length_drop]
 refine ⟨_,_,A1,c1,A2,c2,rfl,rfl,by rw [e1,e2],hP.take k (by rw [←e1];exact h1) h2 h5,hP.drop k (by rw [←e2];exact h3) h4 h6,hb⟩
theorem shift_{w0:World}{g:Nat}{fu:Fu}{c:Nat}(ps:List Bs)(l:List Tz)(H:∀ y∈l,XAt w0 g fu c y)(x:Bx)(w:World)(kb:Nat)(kn:Kw)(nd ca:Int)(k a:Int)(s:Bs)(n:Nat)(A:Option Addr)(la cA:Nat)(B:Option Addr)(lb cB:Nat)(hca:ca+(c:Int) = 61)(hC:Cx w0 g x.fb kb fu kn w)(hT:TrV w0 (.mk k a s n ps l) k a s n A la cA B lb cB)(hok:okCs fu l)(hB:Blk w g 87 (bxA x nd ca)) :
  Calls Tryz.prog 106 #[.pointer (some ⟨g,0,none⟩),nzA k a s n A la cA B lb cB,.map (some kb)] w (XP g x ca w (shR worB XM fu c kn l nd)):=by
 obtain ⟨-,-,-,-,rfl,rfl,hP,-,-,-,-,-,-⟩:=hT.parts;obtain ⟨wn,hwn,hbn,hXn,hsn⟩:=a_box w (nB k a s n A l.length cA B ps.length cB);obtain ⟨⟨e0,e1,e2,e3,e4,e5⟩,z0,z1,z2,z3,z4,z5⟩:=Blk.c6 hXn;have HH:=Hi H;have HC:=Hi (hC.below hbn);have HP:=Hi hP;have HOK:=Hi hok;have HB:=Hi (hB.below hbn hB.lt);have HCA:=Hi hca;have HW:=Hi hwn;have HU:=Hi (Upd.of_below hbn (fun b=>b=g));have HCU:=Hi (cutL wn 1 hP (by decide));obtain ⟨res,hres⟩:∃ res,shR worB XM fu c kn l nd=res:=⟨_,rfl⟩;rw [hres];have HRES:=Hi hres;clear H hC hT hP hok hB hres hca hwn hbn hXn hsn;go_enter Tryz.func106,Tryz.ntmps106;go_upto_region 1 with fail
 rw [HW.out];go_wp2_with fail
 refine (show Calls Tryz.prog 45 #[.slice A l.length cA,.int .i64 1] wn _ from HCU.out).mono ?_;rintro e w1 ⟨l1,l2,A1,c1,A2,c2,h1,h2,rfl,hP1,hP2,hb1⟩;have HC1:=Hi (HC.out.below hb1);have HB1:=Hi (HB.out.below hb1 HB.out.lt);have HU1:=Hi (HU.out.trans (Upd.of_below hb1 _));have HL1:=Hi h1;have HL2:=Hi h2;have HP1:=Hi hP1;have HCU2:=Hi (cutL w1 1 hP2 (by decide));clear h1 h2 hP1 hP2 hb1 HCU e0 e1 e2 e3 e4 e5 z0 z1 z2 z3 z4 z5;go_wp2_with fail
 refine (show Calls Tryz.prog 45 #[.slice A2 l2.length c2,.int .i64 1] w1 _ from HCU2.out).mono ?_;rintro e w2 ⟨l3,l4,A3,c3,A4,c4,h3,h4,rfl,hP3,hP4,hb2⟩;have HC2:=Hi (HC1.out.below hb2);have HB2:=Hi (HB1.out.below hb2 HB1.out.lt);have HU2:=Hi (HU1.out.trans (Upd.of_below hb2 _));have HP3:=Hi hP3;have hr3:(match strBs (looB kn) l3 with | some e=>Rf.bad e.2.1 (badB kn e) | none=>bndF (seqB (xC fu c kn) l1 nd) fun q=>.ok (q.1.any id,q.2))=res:=by
  rw [←HRES.out,h3,HL2.out,HL1.out];rfl
 have HR3:=Hi hr3;have hl3:l3.length≤9223372036854775807:=Nat.le_trans hP3.le hP3.cap;clear h3 h4 hP3 hP4 hb2 HCU2 hr3 HRES;go_wp2_with fail
 go_loopw [26] (fun vi wr=>∃ i:Nat,i≤l3.length∧vi = .int .i64 (i:Int)∧Hid (Blk wr g 87 (bxA x nd ca))∧Hid (Upd (fun b=>b=g) w wr)∧Hid (Below w2.heap.size w2 wr)∧Hid (strBs (looB kn) (l3.drop i)=strBs (looB kn) l3)) (fun vi _=>l3.length - (intOf vi).toNat)
 case atStart=>exact ⟨0,by omega,rfl,HB2,HU2,Hi (Below.refl _ _),Hi rfl⟩
 case round=>
  obtain ⟨i,hi,rfl,HBr,HUr,HBW,HQ⟩:=hrel;have HCr:=Hi (HC2.out.below HBW.out);by_cases hlt:i < l3.length
  ·have hil:(i:Int) < (l3.length:Int):=by omega
   obtain ⟨y,hy⟩:∃ y,l3[i]?=some y:=⟨_,List.getElem?_eq_getElem hlt⟩;obtain ⟨bb,o,k',a',s',n',A',la',cA',B',lb',cB',hA,hTy,hbl,g0',g1,g2,g3,g4,g5⟩:=HP3.out.at_ HCr.out.bel hy;subst hA;obtain ⟨wb,hwb,hbb,hXb,hsb⟩:=a_box wr (nB k' a' s' n' A' la' cA' B' lb' cB');obtain ⟨mk,hmk⟩:=(HCr.out.below hbb).kno;have hCc:=mustBe (w0:=w0) wb y k' a' s' n' A' la' cA' B' lb' cB' (HCr.out.below hbb).bel hmk hTy;have hq:=HQ.out;rw [drop_at hy,strBs_cons] at hq;obtain ⟨⟨e0,e1,e2,e3,e4,e5⟩,z0,z1,z2,z3,z4,z5⟩:=Blk.c6 hXb;have HCC:=Hi hCc;have HWB:=Hi hwb;have HQ2:=Hi hq;have HBB:=Hi hbb;have hbl2:bb < wr.heap.size:=Nat.lt_of_lt_of_le hbl HCr.out.bel.size;clear hCc hwb hbb hXb hq hTy hy hsb hmk;generalize strB (looB kn) y=r2 at HCC HQ2;go_wp2_with fail
   rw [HWB.out];refine (show Calls Tryz.prog 70 #[nzA k' a' s' n' A' la' cA' B' lb' cB',.map (some kb)] wb _ from HCC.out).mono ?_;intro e w4 h4;clear e0 e1 e2 e3 e4 e5 z0 z1 z2 z3 z4 z5;cases r2 with
   | some r2=>
    obtain ⟨rfl,hb4⟩:=h4;have HQ3:=HQ2.out;have HEND:=Hi (show XP g x ca w res (panF r2.2.1 (badB kn r2)) w4 from by
     rw [←HR3.out,←show some r2=strBs (looB kn) l3 from HQ3];exact ⟨rfl,HUr.out.trans (Upd.of_below (HBB.out.trans (hb4.mono HBB.out.size)) _)⟩)
    clear hb4 HQ3;go_wp2_with fail
    exact ⟨rfl,HEND.out⟩
   | none=>
    obtain ⟨rfl,hb4⟩:=h4;have hb4':=HBB.out.trans (hb4.mono HBB.out.size);have H1:=Hi (HBr.out.below hb4' HBr.out.lt);have H2:=Hi (HUr.out.trans (Upd.of_below hb4' _));have H3:=Hi (HBW.out.trans (hb4'.mono HBW.out.size));have HQ3:=Hi (show strBs (looB kn) (l3.drop (i+1))=strBs (looB kn) l3 from HQ2.out);clear hb4 hb4';go_wp2_with fail
    go_roundw
    case rel=>exact ⟨i+1,by omega,by go_num,H1,H2,H3,HQ3⟩
    case measure=>simp [intOf];omega
  ·obtain rfl:i=l3.length:=by omega
   have hq:=HQ.out;rw [List.drop_length] at hq
   conv at hq=>lhs;unfold strBs
   have hr:=HR3.out;rw [←hq] at hr;have HE:=Hi (exprs_ l1 (fun y hy=>HH.out y (List.mem_of_mem_take (by rw [HL1.out] at hy;exact hy))) x wr kb kn nd ca A1 c1 HCA.out HCr.out HP1.out (by rw [HL1.out];exact okCs_take 1 HOK.out) HBr.out);unfold XsP at HE;rw [show (bndF (seqB (xC fu c kn) l1 nd) fun q=>.ok (q.1.any id,q.2))=res from hr] at HE;clear hq hr;go_wp2_with fail
   refine (show Calls Tryz.prog 69 #[.pointer (some ⟨g,0,none⟩),.slice A1 l1.length c1,.map (some kb)] wr _ from HE.out).mono ?_;intro e w4 h4;have h4':=h4.from HUr.out;clear h4;cases res with
   | bad a2 er2=>
    obtain ⟨rfl,hu4⟩:=h4';have HEND:=Hi (show XP g x ca w (.bad a2 er2) (panF a2 er2) w4 from ⟨rfl,hu4⟩);clear hu4;go_wp2_with fail
    exact ⟨rfl,HEND.out⟩
   | ok q=>
    obtain ⟨b2,nd2⟩:=q;obtain ⟨rfl,hB4,hu4⟩:=h4';have HEND:=Hi (show XP g x ca w (.ok (b2,nd2)) (.returned (.bool b2)) w4 from ⟨rfl,hB4,hu4⟩);clear hB4 hu4;go_wp2_with fail
    go_ret;exact HEND.out
end Go.Proofs.YtbbpfjlnncpohaaGreatDoor.Fl
