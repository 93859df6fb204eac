/- DERIVED. FlCa. By an AI agent. -/
import Derived.Test.YtdhoemlomojfaaaGreatDoorW01
import Derived.Test.YtdhoemlomojfaaaGreatDoorW03
import Derived.Test.YtdhoemlomojfaaaGreatDoorW25
import Derived.Test.YtdhoemlomojfaaaGreatDoorW26
set_option maxRecDepth 100000
set_option maxHeartbeats 8000000
set_option linter.unusedVariables false
set_option linter.unusedSimpArgs false
namespace Go.Proofs.YtdhoemlomojfaaaGreatDoor.Fl
open Go Go.ChangeShapes Go.WideShapes Go.ChangeAt Go.RowKit Lx Args Pa Sh Go.Proofs.YtdhoemlomojfaaaGreatDoor.Nm
theorem catch_idle(p q r:Addr)(w:World) :
  CallsD Tryz.prog 48 #[.pointer (some p),.pointer (some q),.pointer (some r)] .returning w fun e u' w'=>e = .returned (.tuple #[])∧u' = .returning∧w'=w:=by
 have hnil:∀ w:World,(binOp BinOp.neq 20 .nilIface .nilIface).run Tryz.prog w = .ok (.bool false) w:=fun _=>by kernel_rfl
 refine callsD_of_wpS Tryz.func48 rfl fun c₀ cs hu=>?_
 apply wpS_seq;apply wpS_region;simp [wpOpsS,go_sem,recoverD,hu,Tryz.ntmps48,Exit.thenS];refine wpS_of_wp ?_;go_wp2_with fail
 cases c₀
 simp_all [bodyPostS,results,Tryz.results48]
def R3(w:World)(g:Nat)(v a e:Value):Prop:=Blk w g 63 #[v]∧Blk w (g+1) 3 #[a]∧Blk w (g+2) 47 #[e]
theorem R3.upd{w w':World}{g:Nat}{v a e:Value}{X:Nat→Prop}(h:R3 w g v a e)(hu:Upd X w w')(hx:¬ X g∧¬ X (g+1)∧¬ X (g+2)):R3 w' g v a e:=⟨h.1.upd hu hx.1,h.2.1.upd hu hx.2.1,h.2.2.upd hu hx.2.2⟩
theorem R3.cells{w:World}{g:Nat}{v a e:Value}(h:R3 w g v a e):w.cell? ⟨g,0,none⟩=some v∧w.cell? ⟨g+1,0,none⟩=some a∧w.cell? ⟨g+2,0,none⟩=some e∧w.frozen? ⟨g,0,none⟩=false∧w.frozen? ⟨g+1,0,none⟩=false∧w.frozen? ⟨g+2,0,none⟩=false∧g+2 < w.heap.size:=
 ⟨h.1.cell 0,h.2.1.cell 0,h.2.2.cell 0,h.1.frozen 0,h.2.1.frozen 0,h.2.2.frozen 0,h.2.2.lt⟩
theorem R3.put{w:World}{g:Nat}{v a e:Value}(h:R3 w g v a e)(v' a' e':Value):R3 (((w.setCell ⟨g,0,none⟩ v').setCell ⟨g+1,0,none⟩ a').setCell ⟨g+2,0,none⟩ e') g v' a' e':=
 ⟨((h.1.set 0 v').far (p:=⟨g+1,0,none⟩) (by show g≠g+1;omega) a').far (p:=⟨g+2,0,none⟩) (by show g≠g+2;omega) e',
  ((h.2.1.far (p:=⟨g,0,none⟩) (by show g+1≠g;omega) v').set 0 a').far (p:=⟨g+2,0,none⟩) (by show g+1≠g+2;omega) e',
  ((h.2.2.far (p:=⟨g,0,none⟩) (by show g+2≠g;omega) v').far (p:=⟨g+1,0,none⟩) (by show g+2≠g+1;omega) a').set 0 e'⟩
theorem R3.put_upd{w0 w:World}{g:Nat}(h:Upd (fun b=>b=g∨b=g+1∨b=g+2) w0 w)(v' a' e':Value):Upd (fun b=>b=g∨b=g+1∨b=g+2) w0 (((w.setCell ⟨g,0,none⟩ v').setCell ⟨g+1,0,none⟩ a').setCell ⟨g+2,0,none⟩ e'):=
 ((h.setCell (p:=⟨g,0,none⟩) (fun _=>.inl rfl) v').setCell (p:=⟨g+1,0,none⟩) (fun _=>.inr (.inl rfl)) a').setCell (p:=⟨g+2,0,none⟩) (fun _=>.inr (.inr rfl)) e'
theorem catch_wrong(g:Nat)(a:Int)(er:Nat)(w:World){v0 a0 q0:Value}(h3:R3 w g v0 a0 q0) :
  CallsD Tryz.prog 48 #[.pointer (some ⟨g,0,none⟩),.pointer (some ⟨g+1,0,none⟩),.pointer (some ⟨g+2,0,none⟩)] (.panicking [{ v:=.iface 92 (.agg #[.int .i64 a,.int .i64 (er:Int)]),recovered:=false }]) w fun e u' w'=>e = .returned (.tuple #[]) ∧
   u' = .panicking [{ v:=.iface 92 (.agg #[.int .i64 a,.int .i64 (er:Int)]),recovered:=true }]∧R3 w' g (.slice none 0 0) (.int .i64 a) (.int .i64 (er:Int))∧Upd (fun b=>b=g∨b=g+1∨b=g+2) w w':=by
 have hne:∀ w:World,(binOp BinOp.neq 20 (.iface 92 (.agg #[.int .i64 a,.int .i64 (er:Int)])) .nilIface).run Tryz.prog w = .ok (.bool true) w:=fun _=>by kernel_rfl
 have hta:∀ w:World,(Instr.typeAssert (.iface 92 (.agg #[.int .i64 a,.int .i64 (er:Int)])) 20 92 false).run Tryz.prog w = .ok (.agg #[.int .i64 a,.int .i64 (er:Int)]) w:=fun _=>by kernel_rfl
 refine callsD_of_wpS Tryz.func48 rfl fun c₀ cs hu=>?_
 apply wpS_seq;apply wpS_region;simp [wpOpsS,go_sem,recoverD,hu,Tryz.ntmps48,Exit.thenS];refine wpS_of_wp ?_;simp only [Array.replicate_succ,Array.replicate_zero,List.push_toArray,List.setIfInBounds_toArray,List.set_cons_succ,List.set_cons_zero,List.append_toArray,List.cons_append,List.nil_append];obtain ⟨w1,hw1⟩:∃ w1,w.alloc (.cells #[.int .i64 a,.int .i64 (er:Int)] 92)=w1:=⟨_,rfl⟩;have hb1:Below w.heap.size w w1:=by rw [←hw1];exact (Below.refl _ _).alloc (Nat.le_refl _) _
 have hX1:Blk w1 w.heap.size 92 #[.int .i64 a,.int .i64 (er:Int)]:=by rw [←hw1];exact Blk.new _ _ _
 have hdr:Below w1.heap.size w1 w1.drew:=Below.drew (Below.refl _ _);obtain ⟨wd,hwd⟩:∃ u,w1.drew=u:=⟨_,rfl⟩;rw [hwd] at hdr;have hbd:=hb1.trans (hdr.mono hb1.size);have h3l:=h3.cells.2.2.2.2.2.2;have hR:=h3.upd (Upd.of_below hbd fun _=>False) ⟨id,id,id⟩;have HXd:=Hi (hX1.below hdr hX1.lt);have HRd:=Hi hR;have HW1:=Hi hw1;have HN:=Hi (show ¬ (w.heap.size=g∨w.heap.size=g+1∨w.heap.size=g+2) from by omega);have HU:=Hi (show Upd (fun b=>b=g∨b=g+1∨b=g+2) w wd from Upd.of_below hbd _);have HWD:=Hi hwd;clear h3 hw1 hb1 hX1 hdr hbd h3l hR hwd;go_upto_region 3 with fail
 rw [HW1.out];have hwd:=HWD.out;clear HWD;have hZ0:Upd (fun b=>b=g∨b=g+1∨b=g+2) wd wd:=Upd.refl _ _;refine HT.wp_region (Z:=fun w'=>Upd (fun b=>b=g∨b=g+1∨b=g+2) wd w') (S:=fun _=>True) (st:=[]) (by kernel_rfl) ?_;rw [hwd];clear hwd;refine HT.tk 0 rfl (by intro v hSw;have hA:=HXd.out.upd hSw HN.out;obtain ⟨d0,d1,f0,f1⟩:=blk_2 hA;have hga:=hA.lt;clear hSw hA;go_simp;try with_reducible rfl) hZ0 HT.tr ?_;refine HT.tk 1 rfl (by intro v hSw;have hA:=HXd.out.upd hSw HN.out;obtain ⟨d0,d1,f0,f1⟩:=blk_2 hA;have hga:=hA.lt;clear hSw hA;go_simp;try with_reducible rfl) hZ0 HT.tr ?_;refine HT.tk 2 rfl (by intro v hSw;have hA:=HXd.out.upd hSw HN.out;obtain ⟨d0,d1,f0,f1⟩:=blk_2 hA;have hga:=hA.lt;clear hSw hA;go_simp;try with_reducible rfl) hZ0 HT.tr ?_;refine HT.tk 3 rfl (by intro v hSw;have hA:=HXd.out.upd hSw HN.out;obtain ⟨d0,d1,f0,f1⟩:=blk_2 hA;have hga:=hA.lt;clear hSw hA;go_simp;try with_reducible rfl) hZ0 HT.tr ?_;obtain ⟨c1,c2,c3,f1,f2,f3,hgl⟩:=HRd.out.cells;have g01:g≠g+1:=by omega
 have g02:g≠g+2:=by omega
 have g12:g+1≠g+2:=by omega
 have hz1:Upd (fun b=>b=g∨b=g+1∨b=g+2) wd (wd.setCell ⟨g,0,none⟩ (.slice none 0 0)):=hZ0.setCell (p:=⟨g,0,none⟩) (fun _=>.inl rfl) _;have hz2:=hz1.setCell (p:=⟨g+1,0,none⟩) (fun _=>.inr (.inl rfl)) (.int .i64 a);have hz3:=hz2.setCell (p:=⟨g+2,0,none⟩) (fun _=>.inr (.inr rfl)) (.int .i64 (er:Int));refine HT.one (i:=4) (by kernel_rfl) rfl (fun K hK=>?_);go_simp;(try dsimp only);refine hK.out _ _ hz1 trivial ?_;clear hK K;(try simp only [HT.pS]);refine HT.one (i:=5) (by kernel_rfl) rfl (fun K hK=>?_);go_simp;(try dsimp only);refine hK.out _ _ hz2 trivial ?_;clear hK K;(try simp only [HT.pS]);refine HT.one (i:=6) (by kernel_rfl) rfl (fun K hK=>?_);go_simp;(try dsimp only);refine hK.out _ _ hz3 trivial ?_;clear hK K;(try simp only [HT.pS]);refine HT.done (by kernel_rfl) ?_;have HE1:=Hi (HRd.out.put (.slice none 0 0) (.int .i64 a) (.int .i64 (er:Int)));have HE2:=Hi (HU.out.trans hz3);clear hZ0 hz1 hz2 hz3 c1 c2 c3 f1 f2 f3 hgl;go_wp2_with fail
 exact ⟨rfl,_,rfl,_,results_none rfl _ _ _,rfl,rfl,HE1.out,HE2.out⟩
theorem isAgL(w:World):(isAgg 63).run Tryz.prog w = .ok false w:=Go.Proofs.run_isAgg_plain Tryz.underlying63 rfl w
theorem res3{g:Nat}{v a e:Value}{W:World}(h:R3 W g v a e)(tmps:Array Value)(h2:tmps.getD 2 undef = .pointer (some ⟨g,0,none⟩))(h3:tmps.getD 3 undef = .pointer (some ⟨g+1,0,none⟩))(h4:tmps.getD 4 undef = .pointer (some ⟨g+2,0,none⟩)) :
  (results Tryz.f40 tmps).run Tryz.prog W = .ok (.tuple #[v,a,e]) W:=
 results_ccc rfl tmps W g (g+1) (g+2) v a e h2 h3 h4 (loadVar_plain (isAgL W) (h.1.cell 0)) (loadVar_plain (isAgI W) (h.2.1.cell 0)) (loadVar_plain (isAgE W) (h.2.2.cell 0))
theorem boxes4(w:World)(cs:Array Value):∃ w0,(((w.alloc (.cells cs 62)).alloc (.cells #[.slice none 0 0] 63)).alloc (.cells #[.int .i64 0] 3)).alloc (.cells #[.int .i64 0] 47)=w0∧Below w.heap.size w w0∧w0.heap.size=w.heap.size+4 ∧
  Blk w0 w.heap.size 62 cs∧R3 w0 (w.heap.size+1) (.slice none 0 0) (.int .i64 0) (.int .i64 0):=by
 refine ⟨_,rfl,((((Below.refl _ _).alloc (Nat.le_refl _) _).alloc (by simp) _).alloc (by simp;omega) _).alloc (by simp;omega) _,by simp,(((Blk.new _ _ _).alloc _).alloc _).alloc _,?_,?_,?_⟩
 ·have h:=((Blk.new (w.alloc (.cells cs 62)) 63 #[.slice none 0 0]).alloc (.cells #[.int .i64 0] 3)).alloc (.cells #[.int .i64 0] 47);have e:(w.alloc (.cells cs 62)).heap.size=w.heap.size+1:=by simp
  rw [e] at h;exact h
 ·have h:=(Blk.new ((w.alloc (.cells cs 62)).alloc (.cells #[.slice none 0 0] 63)) 3 #[.int .i64 0]).alloc (.cells #[.int .i64 0] 47);have e:((w.alloc (.cells cs 62)).alloc (.cells #[.slice none 0 0] 63)).heap.size=w.heap.size+2:=by simp
  rw [e] at h;exact h
 ·have h:=Blk.new (((w.alloc (.cells cs 62)).alloc (.cells #[.slice none 0 0] 63)).alloc (.cells #[.int .i64 0] 3)) 47 #[.int .i64 0];have e:(((w.alloc (.cells cs 62)).alloc (.cells #[.slice none 0 0] 63)).alloc (.cells #[.int .i64 0] 3)).heap.size=w.heap.size+3:=by simp
  rw [e] at h;exact h
def LabP(w:World)(r:Rf Sf)(e:Ending)(w':World):Prop:=
 match r with
 | .bad a er=>er≠0∧e = .returned (.tuple #[.slice none 0 0,.int .i64 a,.int .i64 (er:Int)])∧Below w.heap.size w w'
 | .ok c=>c.ou.length≤maxLen∧(∃ A k,e = .returned (.tuple #[.slice A c.ou.length k,.int .i64 0,.int .i64 0])∧w'.ownsRow w.heap.size 158 3 (.slice A c.ou.length k) c.ou.length (c.ou.flatMap lbC))∧Below w.heap.size w w'
theorem flB_ts{z:Tz}:flB worB XM 61 2000 z=xTs (fuz z) 0 (lz z) init:=rfl
theorem labels_(z:Tz)(w:World)(k a:Int)(s:Bs)(n:Nat)(A:Option Addr)(la cA:Nat)(B:Option Addr)(lb cB:Nat)(hT:TrV w z k a s n A la cA B lb cB)(hk:nbz z≤134217728)(hok:okSs (fuz z) 0 (lz z)∧okF (fuz z) (fuz z)) :
  Calls Tryz.prog 40 #[nzA k a s n A la cA B lb cB] w (LabP w (flB worB XM 61 2000 z)):=by
 rw [flB_ts];obtain ⟨k1,a1,s1,n1,ps,l⟩:=z;obtain ⟨rfl,rfl,rfl,rfl,rfl,rfl,hP,-,-,-,-,-,-⟩:=hT.parts;have hnb:nbz (.mk k a s n ps l)=ps.length+1+nbzs l:=rfl;obtain ⟨wn,hwn,hbn,hsn,hXn,hRn⟩:=boxes4 w (nB k a s n A l.length cA B ps.length cB);obtain ⟨g0,hg0⟩:∃ g0,w.heap.size=g0:=⟨_,rfl⟩;rw [hg0] at hXn hRn hsn;obtain ⟨w1,hw1⟩:∃ u,wn.alloc (.map #[] 0)=u:=⟨_,rfl⟩;obtain ⟨w2,hw2⟩:∃ u,w1.alloc (.map #[] 0)=u:=⟨_,rfl⟩;obtain ⟨w3,hw3⟩:∃ u,w2.alloc (.map #[] 0)=u:=⟨_,rfl⟩;obtain ⟨w4,hw4⟩:∃ u,w3.alloc (.cells #[.map (some (g0+4)),.map (some (g0+6)),.slice none 0 0,.map (some (g0+5)),.int .i64 0,.int .i64 0,.int .i64 0] 97)=u:=⟨_,rfl⟩;have hs1:w1.heap.size=g0+5:=by rw [←hw1];simp [hsn]
 have hs2:w2.heap.size=g0+6:=by rw [←hw2];simp [hs1]
 have hs3:w3.heap.size=g0+7:=by rw [←hw3];simp [hs2]
 have hb1:Below wn.heap.size wn w1:=by rw [←hw1];exact (Below.refl _ _).alloc (Nat.le_refl _) _
 have hb2:Below w1.heap.size w1 w2:=by rw [←hw2];exact (Below.refl _ _).alloc (Nat.le_refl _) _
 have hb3:Below w2.heap.size w2 w3:=by rw [←hw3];exact (Below.refl _ _).alloc (Nat.le_refl _) _
 have hb4:Below w3.heap.size w3 w4:=by rw [←hw4];exact (Below.refl _ _).alloc (Nat.le_refl _) _
 have hmk1:(Instr.makeMap 95 none).run Tryz.prog wn = .ok (.map (some (g0+4))) w1:=by rw [←hw1,←hsn];exact run_makeMap _ _
 have hmk2:(Instr.makeMap 95 none).run Tryz.prog w1 = .ok (.map (some (g0+5))) w2:=by rw [←hw2,←hs1];exact run_makeMap _ _
 have hmk3:(Instr.makeMap 80 none).run Tryz.prog w2 = .ok (.map (some (g0+6))) w3:=by rw [←hw3,←hs2];exact run_makeMap _ _
 have hm1:MpW w1 (g0+4) 0 (fun _=>none):=by rw [←hw1,←hsn];exact MpG.made codW wn
 have hm2:MpW w2 (g0+5) 0 (fun _=>none):=by rw [←hw2,←hs1];exact MpG.made codW w1
 have hm3:MpN w3 (g0+6) 0 (fun _=>none):=by rw [←hw3,←hs2];exact MpG.made codN w2
 have hX4:Blk w4 (g0+7) 97 (gxA ⟨g0+7,g0+4,g0+6,g0+5⟩ (.slice none 0 0) 0 0 0):=by rw [←hs3,←hw4];exact Blk.new _ _ _
 have hb24:=hb3.trans (hb4.mono hb3.size);have hb14:=hb2.trans (hb24.mono hb2.size);have hbn4:=hb1.trans (hb14.mono hb1.size);have hb04:=hbn.trans (hbn4.mono hbn.size);have hF4:FuM w w4 (g0+6) 0 (fun _=>none):=⟨_,hm3.upd (Upd.of_below hb4 fun _=>False) id,fun s=>rfl⟩;have hXN4:=hXn.below hbn4 hXn.lt;have hR4:=hRn.upd (Upd.of_below hbn4 fun _=>False) ⟨id,id,id⟩;have HLE:=Hi (learn_all (w0:=w) (SizeOf.sizeOf l+1) l (Nat.lt_succ_self _) w4 (g0+7) (g0+6) 0 (fun _=>none) A cA _ hb04 (by omega) (by omega) hF4 (by omega) hX4 rfl hP);have HM1:=Hi (hm1.upd (Upd.of_below hb14 fun _=>False) id);have HM2:=Hi (hm2.upd (Upd.of_below hb24 fun _=>False) id);have HX4:=Hi hX4;have HXN4:=Hi hXN4;have HR4:=Hi hR4;have HB4:=Hi hb04;have HW:=Hi hwn;have HW4:=Hi hw4;have HP:=Hi hP;have HOK:=Hi hok;have HK:=Hi (show nbzs l≤134217728 from by omega);have HG0:=Hi hg0;have HSN:=Hi hsn;have HS3:=Hi hs3;obtain ⟨⟨e0,e1,e2,e3,e4,e5⟩,z0,z1,z2,z3,z4,z5⟩:=Blk.c6 hXN4;have hgx:=hXN4.lt;have hmf:∀ (fn:Fn) (first cap:Array Value) (w:World),(Instr.makeFunc fn first cap).run Tryz.prog w = .ok (.func fn first cap) w:=fun _ _ _ _=>rfl
 have hfz:fuz (.mk k a s n ps l)=lnTs 0 l fun _=>none:=rfl
 have HFZ:=Hi hfz;obtain ⟨fu,hfu⟩:∃ fu,fuz (.mk k a s n ps l)=fu:=⟨_,rfl⟩;rw [hfu] at HOK HFZ;obtain ⟨res,hres⟩:∃ res,xTs fu 0 l init=res:=⟨_,rfl⟩;have hgoal:xTs (fuz (.mk k a s n ps l)) 0 (lz (.mk k a s n ps l)) init=res:=by rw [hfu];exact hres
 rw [hgoal];have HRES:=Hi hres;clear hT hk hok hP hnb hwn hbn hXn hRn hw1 hw2 hw3 hw4 hs1 hs2 hb1 hb2 hb3 hb4 hm1 hm2 hm3 hX4 hb24 hb14 hbn4 hb04 hF4 hXN4 hR4 hfz hfu hres hgoal hs3
 go_enter_defers Tryz.func40,Tryz.ntmps40
 go_upto_region 1 with fail
 simp only [Nat.add_assoc,Nat.reduceAdd];rw [HW.out];go_upto_region 3 with fail
 (try simp only [HS3.out]);rw [HW4.out];clear hmk1 hmk2 hmk3;go_wp2_with fail
 refine (show Calls Tryz.prog 49 #[.pointer (some ⟨g0+7,0,none⟩),.slice A l.length cA] w4 _ from HLE.out).mono ?_;rintro e w5 ⟨rfl,hF5,hu5⟩;rw [Nat.zero_add,←HFZ.out] at hF5;have hX5:=HX4.out.upd hu5 (by omega);have hXN5:=HXN4.out.upd hu5 (by omega);have hR5:=HR4.out.upd hu5 ⟨by omega,by omega,by omega⟩;have hB5:=HB4.out.trans (hu5.below (B:=w.heap.size) HB4.out.size fun b hb=>by have:=HG0.out;omega);have hG5:CG w w5 ⟨g0+7,g0+4,g0+6,g0+5⟩ (.slice none 0 0) fu (fun _=>none) init (fun _=>none) 0:=by
  refine ⟨hX5,HM1.out.upd hu5 (by omega),HM2.out.upd hu5 (by omega),fun s=>rfl,fun s hs=>(by cases hs),⟨_,hF5⟩,World.ownsRow_nil _ _ _ _,⟨by show g0+4≠g0+7;omega,by show g0+5≠g0+7;omega,by show g0+6≠g0+7;omega,by show g0+5≠g0+4;omega,by show g0+6≠g0+4;omega,by show g0+6≠g0+5;omega,fun b hb=>(by cases hb)⟩,fun b hb=>?_,Nat.le_refl _,Nat.zero_le _,hB5,HOK.out.2⟩;have h0:=HG0.out;rcases hb with h | h | h | h
  ·have h':b=g0+7:=h;omega
  ·have h':b=g0+4:=h;omega
  ·have h':b=g0+5:=h;omega
  ·cases h
 have HST:=Hi (statements_ (fu:=fu) l (fun y _=>st_all (SizeOf.sizeOf y+1) y (Nat.lt_succ_self _)) w5 ⟨g0+7,g0+4,g0+6,g0+5⟩ (.slice none 0 0) (fun _=>none) init (fun _=>none) 0 A cA hG5 HK.out (by have:=HK.out;show 0+nbzs l≤(0+1) * 134217728;omega) HP.out HOK.out.1);rw [HRES.out] at HST;have HB5:=Hi hB5;have HR5:=Hi hR5;clear e0 e1 e2 e3 e4 e5 z0 z1 z2 z3 z4 z5 hgx;obtain ⟨⟨e0,e1,e2,e3,e4,e5⟩,z0,z1,z2,z3,z4,z5⟩:=Blk.c6 hXN5;have hgx:=hXN5.lt;clear hF5 hu5 hX5 hXN5 hR5 hB5 hG5 HLE;go_wp2_with fail
 refine (show Calls Tryz.prog 50 #[.pointer (some ⟨g0+7,0,none⟩),.slice A l.length cA] w5 _ from HST.out).mono ?_;intro e w6 h6;clear e0 e1 e2 e3 e4 e5 z0 z1 z2 z3 z4 z5 hgx;have hno:∀ b,b=g0+1∨b=g0+2∨b=g0+3→¬ ow ⟨g0+7,g0+4,g0+6,g0+5⟩ (.slice none 0 0) b:=fun b hb h=>by
  rcases h with h | h | h | h
  ·have h':b=g0+7:=h;omega
  ·have h':b=g0+4:=h;omega
  ·have h':b=g0+5:=h;omega
  ·cases h
 have hlo:∀ b,ow ⟨g0+7,g0+4,g0+6,g0+5⟩ (.slice none 0 0) b→w.heap.size≤b:=fun b h=>by
  have h0:=HG0.out;rcases h with h | h | h | h
  ·have h':b=g0+7:=h;omega
  ·have h':b=g0+4:=h;omega
  ·have h':b=g0+5:=h;omega
  ·cases h
 cases res with
 | bad a1 er1=>
  obtain ⟨rfl,hu6⟩:=h6;have hR6:=HR5.out.upd hu6 ⟨hno _ (.inl rfl),hno _ (.inr (.inl rfl)),hno _ (.inr (.inr rfl))⟩;have HB6:=Hi (HB5.out.trans (hu6.below (B:=w.heap.size) HB5.out.size hlo));have HR6:=Hi hR6;have HER:=Hi (show er1≠0 from by
   have h:=sfTs_er (num:=worB) (M:=XM) (D:=61) (R:=2000) (fu:=fu) 0 l init;rw [show sfTs worB XM 61 2000 fu 0 l init = .bad a1 er1 from HRES.out] at h;exact h)
  clear hu6 hR6 hno hlo;go_wp2_with fail
  refine leaves_cons (f:=48) (args:=#[.pointer (some ⟨g0+1,0,none⟩),.pointer (some ⟨g0+2,0,none⟩),.pointer (some ⟨g0+3,0,none⟩)]) (by simp) (by simp [go_sem]) ?_;refine (catch_wrong (g0+1) a1 er1 w6 HR6.out).mono ?_;rintro e u' w7 ⟨rfl,rfl,hR7,hU7⟩;exact ⟨_,res3 hR7 _ rfl rfl rfl,HER.out,rfl,HB6.out.trans (hU7.below (B:=w.heap.size) HB6.out.size fun b hb=>by have:=HG0.out;omega)⟩
 | ok d=>
  obtain ⟨rfl,vl6,fm6,m6,hG6,hN6,hu6,hb6,hr6⟩:=h6;simp only [show init.rd = 0 from rfl,Nat.zero_mul,Nat.add_zero,Nat.zero_add] at hb6;clear hr6;have hR6:=HR5.out.upd hu6 ⟨hno _ (.inl rfl),hno _ (.inr (.inl rfl)),hno _ (.inr (.inr rfl))⟩;have hB6:=HB5.out.trans (hu6.below (B:=w.heap.size) HB5.out.size hlo);obtain ⟨vA,vc,rfl⟩:=own_sl hG6.lab;obtain ⟨q0,q1,q2,q3,q4,q5,q6⟩:=Blk.c7 hG6.blk;have hgl:=hG6.blk.lt;obtain ⟨c1,c2,c3,f1,f2,f3,hg3⟩:=hR6.cells;have hR7:=hR6.put (.slice vA d.ou.length vc) (.int .i64 0) (.int .i64 0);have hU7:=R3.put_upd (Upd.refl (fun b=>b=g0+1∨b=g0+1+1∨b=g0+1+2) w6) (.slice vA d.ou.length vc) (.int .i64 0) (.int .i64 0);have hns:∀ b,(Value.slice vA d.ou.length vc).ownBlock=some b→¬ (b=g0+1∨b=g0+1+1∨b=g0+1+2):=fun b hb h=>by
   rcases hN6 with h1 | ⟨n1,h1,h2⟩
   ·rw [h1] at hb;cases hb
   ·rw [h2] at hb;cases hb;have hz:=HR5.out.2.2.lt;omega
  have hL7:=Nm.own_updV hG6.lab hU7 hns;have hou:d.ou.length≤maxLen:=by
   have h1:=hG6.oub;have h2:=hG6.rdb;have h3:=HK.out;unfold maxLen;omega
  have HEND:=Hi (show LabP w (.ok d) (.returned (.tuple #[.slice vA d.ou.length vc,.int .i64 0,.int .i64 0])) _ from ⟨hou,⟨vA,vc,rfl,hL7⟩,hB6.trans (hU7.below (B:=w.heap.size) hB6.size fun b hb=>by have:=HG0.out;omega)⟩);have HR7:=Hi hR7;have g01:g0+1≠g0+2:=by omega
  have g02:g0+1≠g0+3:=by omega
  have g12:g0+2≠g0+3:=by omega
  clear hG6 hN6 hu6 hb6 hR6 hB6 hR7 hU7 hns hL7 hou hno hlo;go_wp2_with fail
  refine leaves_cons (f:=48) (args:=#[.pointer (some ⟨g0+1,0,none⟩),.pointer (some ⟨g0+2,0,none⟩),.pointer (some ⟨g0+3,0,none⟩)]) (by simp) (by simp [go_sem]) ?_;refine (catch_idle ⟨g0+1,0,none⟩ ⟨g0+2,0,none⟩ ⟨g0+3,0,none⟩ _).mono ?_;rintro e u' w7 ⟨rfl,rfl,rfl⟩;exact ⟨_,res3 HR7.out _ rfl rfl rfl,HEND.out⟩
end Go.Proofs.YtdhoemlomojfaaaGreatDoor.Fl
