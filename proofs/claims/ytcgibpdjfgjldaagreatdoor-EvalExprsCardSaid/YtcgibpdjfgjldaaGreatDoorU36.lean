/- DERIVED. FlCa, RqPr, FlLaw, NmPr, FlCh, FlPg, EvPg. By an AI agent. -/
import Derived.Test.YtcgibpdjfgjldaaGreatDoorU35
import Derived.Test.YtcgibpdjfgjldaaGreatDoorU11
import Derived.Test.YtcgibpdjfgjldaaGreatDoorU31
set_option maxRecDepth 100000
set_option maxHeartbeats 8000000
set_option linter.unusedVariables false
set_option linter.unusedSimpArgs false
namespace Go.Proofs.YtcgibpdjfgjldaaGreatDoor
namespace Fl
open Go Go.ChangeShapes Go.WideShapes Go.ChangeAt Go.RowKit Lx Args Pa Sh Go.Proofs.YtcgibpdjfgjldaaGreatDoor.Nm
theorem catch_idle(p q r:Addr)(w:World) :
  CallsD Tryz.prog 60 #[.pointer (some p),.pointer (some q),.pointer (some r)] .returning w fun e u' w'=>e = .returned (.tuple #[])/\u' = .returning/\w'=w:=by
 have hnil:∀ w:World,(binOp BinOp.neq 20 .nilIface .nilIface).run Tryz.prog w = .ok (.bool false) w:=fun _=>V1
 refine callsD_of_wpS Tryz.func60 rfl fun c₀ cs hu=>?_
 apply wpS_seq;apply wpS_region;simp [wpOpsS,go_sem,recoverD,hu,Tryz.ntmps60,Exit.thenS];refine wpS_of_wp ?_;go_wp2_with fail
 cases c₀
 simp_all [bodyPostS,results,Tryz.results60]
def R3(w:World)(g:Nat)(v a e:Value):Prop:=Blk w g 31 #[v]/\Blk w (g+1) 3 #[a]/\Blk w (g+2) 27 #[e]
theorem R3.upd{w w':World}{g:Nat}{v a e:Value}{X:Nat->Prop}(h:R3 w g v a e)(hu:Upd X w w')(hx:¬ X g/\¬ X (g+1)/\¬ X (g+2)):R3 w' g v a e:=⟨h.1.upd hu hx.1,h.2.1.upd hu hx.2.1,h.2.2.upd hu hx.2.2⟩
theorem R3.cells{w:World}{g:Nat}{v a e:Value}(h:R3 w g v a e):w.cell? ⟨g,0,none⟩=some v/\w.cell? ⟨g+1,0,none⟩=some a/\w.cell? ⟨g+2,0,none⟩=some e/\w.frozen? ⟨g,0,none⟩=false/\w.frozen? ⟨g+1,0,none⟩=false/\w.frozen? ⟨g+2,0,none⟩=false/\g+2 < w.heap.size:=
 ⟨h.1.cell 0,h.2.1.cell 0,h.2.2.cell 0,h.1.frozen 0,h.2.1.frozen 0,h.2.2.frozen 0,h.2.2.lt⟩
theorem R3.put{w:World}{g:Nat}{v a e:Value}(h:R3 w g v a e)(v' a' e':Value):R3 (((w.setCell ⟨g,0,none⟩ v').setCell ⟨g+1,0,none⟩ a').setCell ⟨g+2,0,none⟩ e') g v' a' e':=
 ⟨((h.1.set 0 v').far (p:=⟨g+1,0,none⟩) (by show g≠g+1;omega) a').far (p:=⟨g+2,0,none⟩) (by show g≠g+2;omega) e',
  ((h.2.1.far (p:=⟨g,0,none⟩) (by show g+1≠g;omega) v').set 0 a').far (p:=⟨g+2,0,none⟩) (by show g+1≠g+2;omega) e',
  ((h.2.2.far (p:=⟨g,0,none⟩) (by show g+2≠g;omega) v').far (p:=⟨g+1,0,none⟩) (by show g+2≠g+1;omega) a').set 0 e'⟩
theorem R3.put_upd{w0 w:World}{g:Nat}(h:Upd (fun b=>b=g\/b=g+1\/b=g+2) w0 w)(v' a' e':Value):Upd (fun b=>b=g\/b=g+1\/b=g+2) w0 (((w.setCell ⟨g,0,none⟩ v').setCell ⟨g+1,0,none⟩ a').setCell ⟨g+2,0,none⟩ e'):=
 ((h.setCell (p:=⟨g,0,none⟩) (fun _=>.inl rfl) v').setCell (p:=⟨g+1,0,none⟩) (fun _=>.inr (.inl rfl)) a').setCell (p:=⟨g+2,0,none⟩) (fun _=>.inr (.inr rfl)) e'
theorem catch_wrong(g:Nat)(a:Int)(er:Nat)(w:World){v0 a0 q0:Value}(h3:R3 w g v0 a0 q0) :
  CallsD Tryz.prog 60 #[.pointer (some ⟨g,0,none⟩),.pointer (some ⟨g+1,0,none⟩),.pointer (some ⟨g+2,0,none⟩)] (.panicking [{ v:=.iface 113 (.agg #[.int .i64 a,.int .i64 (er:Int)]),recovered:=false }]) w fun e u' w'=>e = .returned (.tuple #[]) /\
   u' = .panicking [{ v:=.iface 113 (.agg #[.int .i64 a,.int .i64 (er:Int)]),recovered:=true }]/\R3 w' g (.slice none 0 0) (.int .i64 a) (.int .i64 (er:Int))/\Upd (fun b=>b=g\/b=g+1\/b=g+2) w w':=by
 have hne:∀ w:World,(binOp BinOp.neq 20 (.iface 113 (.agg #[.int .i64 a,.int .i64 (er:Int)])) .nilIface).run Tryz.prog w = .ok (.bool true) w:=fun _=>V1
 have hta:∀ w:World,(Instr.typeAssert (.iface 113 (.agg #[.int .i64 a,.int .i64 (er:Int)])) 20 113 false).run Tryz.prog w = .ok (.agg #[.int .i64 a,.int .i64 (er:Int)]) w:=fun _=>V1
 refine callsD_of_wpS Tryz.func60 rfl fun c₀ cs hu=>?_
 apply wpS_seq;apply wpS_region;simp [wpOpsS,go_sem,recoverD,hu,Tryz.ntmps60,Exit.thenS];refine wpS_of_wp ?_;simp only [Array.replicate_succ,Array.replicate_zero,List.push_toArray,List.setIfInBounds_toArray,List.set_cons_succ,List.set_cons_zero,List.append_toArray,List.cons_append,List.nil_append];obtain ⟨w1,hw1,hb1,hX1⟩:=alK w #[.int .i64 a,.int .i64 (er:Int)] 113;have hdr:Below w1.heap.size w1 w1.drew:=Below.drew (Below.refl _ _);obtain ⟨wd,hwd⟩:∃ u,w1.drew=u:=⟨_,rfl⟩;rw [hwd] at hdr;have hbd:=hb1.trans (hdr.mono hb1.size);have h3l:=h3.cells.2.2.2.2.2.2;have hR:=h3.upd (Upd.of_below hbd fun _=>False) ⟨id,id,id⟩;have HXd:=Hi (hX1.below hdr hX1.lt);have HRd:=Hi hR;have HW1:=Hi hw1;have HN:=Hi (show ¬ (w.heap.size=g\/w.heap.size=g+1\/w.heap.size=g+2) from V0);have HU:=Hi (show Upd (fun b=>b=g\/b=g+1\/b=g+2) w wd from Upd.of_below hbd _);have HWD:=Hi hwd;clear h3 hw1 hb1 hX1 hdr hbd h3l hR hwd;go_upto_region 3 with fail
 rw [HW1.out];have hwd:=HWD.out;clear HWD;have hZ0:Upd (fun b=>b=g\/b=g+1\/b=g+2) wd wd:=Upd.refl _ _;refine HT.wp_region (Z:=fun w'=>Upd (fun b=>b=g\/b=g+1\/b=g+2) wd w') (S:=fun _=>True) (st:=[]) V1 ?_;rw [hwd];clear hwd;refine HT.k 0 rfl V0P hZ0 ?_;refine HT.k 1 rfl V0P hZ0 ?_;refine HT.k 2 rfl V0P hZ0 ?_;refine HT.k 3 rfl V0P hZ0 ?_;obtain ⟨c1,c2,c3,f1,f2,f3,hgl⟩:=HRd.out.cells;have g01:g≠g+1:=V0;have g02:g≠g+2:=V0;have g12:g+1≠g+2:=V0;have hz1:Upd (fun b=>b=g\/b=g+1\/b=g+2) wd (wd.setCell ⟨g,0,none⟩ (.slice none 0 0)):=hZ0.setCell (p:=⟨g,0,none⟩) (fun _=>.inl rfl) _;have hz2:=hz1.setCell (p:=⟨g+1,0,none⟩) (fun _=>.inr (.inl rfl)) (.int .i64 a);have hz3:=hz2.setCell (p:=⟨g+2,0,none⟩) (fun _=>.inr (.inr rfl)) (.int .i64 (er:Int));refine HT.one (i:=4) V1 rfl (fun K hK=>?_);go_simp;(try dsimp only);refine hK.out _ _ hz1 trivial ?_;clear hK K;(try simp only [HT.pS]);refine HT.one (i:=5) V1 rfl (fun K hK=>?_);go_simp;(try dsimp only);refine hK.out _ _ hz2 trivial ?_;clear hK K;(try simp only [HT.pS]);refine HT.one (i:=6) V1 rfl (fun K hK=>?_);go_simp;(try dsimp only);refine hK.out _ _ hz3 trivial ?_;clear hK K;(try simp only [HT.pS]);refine HT.done V1 ?_;have HE1:=Hi (HRd.out.put (.slice none 0 0) (.int .i64 a) (.int .i64 (er:Int)));have HE2:=Hi (HU.out.trans hz3);clear hZ0 hz1 hz2 hz3 c1 c2 c3 f1 f2 f3 hgl;go_wp2_with fail
 exact ⟨rfl,_,rfl,_,results_none rfl _ _ _,rfl,rfl,HE1.out,HE2.out⟩
theorem isAgL(w:World):(isAgg 31).run Tryz.prog w = .ok false w:=Go.Proofs.run_isAgg_plain Tryz.underlying31 rfl w
theorem res3{g:Nat}{v a e:Value}{W:World}(h:R3 W g v a e)(tmps:Array Value)(h2:tmps.getD 2 undef = .pointer (some ⟨g,0,none⟩))(h3:tmps.getD 3 undef = .pointer (some ⟨g+1,0,none⟩))(h4:tmps.getD 4 undef = .pointer (some ⟨g+2,0,none⟩)) :
  (results Tryz.f29 tmps).run Tryz.prog W = .ok (.tuple #[v,a,e]) W:=
 q1N rfl tmps W g (g+1) (g+2) v a e h2 h3 h4 (q03 (isAgL W) (h.1.cell 0)) (q03 (isAgI W) (h.2.1.cell 0)) (q03 (isAgE W) (h.2.2.cell 0))
theorem boxes4(w:World)(cs:Array Value):∃ w0,(((w.alloc (.cells cs 26)).alloc (.cells #[.slice none 0 0] 31)).alloc (.cells #[.int .i64 0] 3)).alloc (.cells #[.int .i64 0] 27)=w0/\Below w.heap.size w w0/\w0.heap.size=w.heap.size+4 /\
  Blk w0 w.heap.size 26 cs/\R3 w0 (w.heap.size+1) (.slice none 0 0) (.int .i64 0) (.int .i64 0):=by
 refine ⟨_,rfl,((((Below.refl _ _).alloc (Nat.le_refl _) _).alloc V3 _).alloc V4 _).alloc V4 _,V3,(((Blk.new _ _ _).alloc _).alloc _).alloc _,?_,?_,?_⟩
 ·have h:=((Blk.new (w.alloc (.cells cs 26)) 31 #[.slice none 0 0]).alloc (.cells #[.int .i64 0] 3)).alloc (.cells #[.int .i64 0] 27);exact V4c
 ·have h:=(Blk.new ((w.alloc (.cells cs 26)).alloc (.cells #[.slice none 0 0] 31)) 3 #[.int .i64 0]).alloc (.cells #[.int .i64 0] 27);have e:((w.alloc (.cells cs 26)).alloc (.cells #[.slice none 0 0] 31)).heap.size=w.heap.size+2:=V3;rw [e] at h;exact h
 ·have h:=Blk.new (((w.alloc (.cells cs 26)).alloc (.cells #[.slice none 0 0] 31)).alloc (.cells #[.int .i64 0] 3)) 27 #[.int .i64 0];have e:(((w.alloc (.cells cs 26)).alloc (.cells #[.slice none 0 0] 31)).alloc (.cells #[.int .i64 0] 3)).heap.size=w.heap.size+3:=V3;rw [e] at h;exact h
def LabP(w:World)(r:Rf Sf)(e:Ending)(w':World):Prop:=
 match r with
 | .bad a er=>er≠0/\e = .returned (.tuple #[.slice none 0 0,.int .i64 a,.int .i64 (er:Int)])/\Below w.heap.size w w'
 | .ok c=>c.ou.length<=maxLen/\(∃ A k,e = .returned (.tuple #[.slice A c.ou.length k,.int .i64 0,.int .i64 0])/\w'.ownsRow w.heap.size 36 3 (.slice A c.ou.length k) c.ou.length (c.ou.flatMap lbC))/\Below w.heap.size w w'
theorem flB_ts{z:Tz}:flB worB XM 61 2000 z=xTs (fuz z) 0 (lz z) init:=rfl
theorem labels_(z:Tz)(w:World)(k a:Int)(s:Bs)(n:Nat)(A:Option Addr)(la cA:Nat)(B:Option Addr)(lb cB:Nat)(hT:TrV w z k a s n A la cA B lb cB)(hk:nbz z<=134217728)(hok:okSs (fuz z) 0 (lz z)/\okF (fuz z) (fuz z)) :
  Calls Tryz.prog 29 #[nzA k a s n A la cA B lb cB] w (LabP w (flB worB XM 61 2000 z)):=by
 rw [flB_ts];obtain ⟨k1,a1,s1,n1,ps,l⟩:=z;obtain ⟨rfl,rfl,rfl,rfl,rfl,rfl,hP,-,-,-,-,-,-⟩:=hT.parts;have hnb:nbz (.mk k a s n ps l)=ps.length+1+nbzs l:=rfl;obtain ⟨wn,hwn,hbn,hsn,hXn,hRn⟩:=boxes4 w (nB k a s n A l.length cA B ps.length cB);obtain ⟨g0,hg0⟩:∃ g0,w.heap.size=g0:=⟨_,rfl⟩;rw [hg0] at hXn hRn hsn;obtain ⟨w1,hw1⟩:∃ u,wn.alloc (.map #[] 0)=u:=⟨_,rfl⟩;obtain ⟨w2,hw2⟩:∃ u,w1.alloc (.map #[] 0)=u:=⟨_,rfl⟩;obtain ⟨w3,hw3⟩:∃ u,w2.alloc (.map #[] 0)=u:=⟨_,rfl⟩;obtain ⟨w4,hw4⟩:∃ u,w3.alloc (.cells #[.map (some (g0+4)),.map (some (g0+6)),.slice none 0 0,.map (some (g0+5)),.int .i64 0,.int .i64 0,.int .i64 0] 118)=u:=⟨_,rfl⟩;have hs1:w1.heap.size=g0+5:=by rw [<-hw1];simp [hsn]
 have hs2:w2.heap.size=g0+6:=V0o;have hs3:w3.heap.size=g0+7:=V2c;have hb1:Below wn.heap.size wn w1:=V4l;have hb2:Below w1.heap.size w1 w2:=V1M;have hb3:Below w2.heap.size w2 w3:=V0N;have hb4:Below w3.heap.size w3 w4:=V4t;have hmk1:(Instr.makeMap 116 none).run Tryz.prog wn = .ok (.map (some (g0+4))) w1:=by rw [<-hw1,<-hsn];exact run_makeMap _ _
 have hmk2:(Instr.makeMap 116 none).run Tryz.prog w1 = .ok (.map (some (g0+5))) w2:=V1O;have hmk3:(Instr.makeMap 73 none).run Tryz.prog w2 = .ok (.map (some (g0+6))) w3:=by rw [<-hw3,<-hs2];exact run_makeMap _ _
 have hm1:MpW w1 (g0+4) 0 (fun _=>none):=by rw [<-hw1,<-hsn];exact MpG.made codW wn
 have hm2:MpW w2 (g0+5) 0 (fun _=>none):=by rw [<-hw2,<-hs1];exact MpG.made codW w1
 have hm3:MpN w3 (g0+6) 0 (fun _=>none):=by rw [<-hw3,<-hs2];exact MpG.made codN w2
 have hX4:Blk w4 (g0+7) 118 (gxA ⟨g0+7,g0+4,g0+6,g0+5⟩ (.slice none 0 0) 0 0 0):=by rw [<-hs3,<-hw4];exact Blk.new _ _ _
 have hb24:=hb3.trans (hb4.mono hb3.size);have hb14:=hb2.trans (hb24.mono hb2.size);have hbn4:=hb1.trans (hb14.mono hb1.size);have hb04:=hbn.trans (hbn4.mono hbn.size);have hF4:FuM w w4 (g0+6) 0 (fun _=>none):=⟨_,hm3.upd (Upd.of_below hb4 fun _=>False) id,fun s=>rfl⟩;have hXN4:=hXn.below hbn4 hXn.lt;have hR4:=hRn.upd (Upd.of_below hbn4 fun _=>False) ⟨id,id,id⟩;have HLE:=Hi (q4x (w0:=w) (SizeOf.sizeOf l+1) l (Nat.lt_succ_self _) w4 (g0+7) (g0+6) 0 (fun _=>none) A cA _ hb04 V0 V0 hF4 V0 hX4 rfl hP);have HM1:=Hi (hm1.upd (Upd.of_below hb14 fun _=>False) id);have HM2:=Hi (hm2.upd (Upd.of_below hb24 fun _=>False) id);have HX4:=Hi hX4;have HXN4:=Hi hXN4;have HR4:=Hi hR4;have HB4:=Hi hb04;have HW:=Hi hwn;have HW4:=Hi hw4;have HP:=Hi hP;have HOK:=Hi hok;have HK:=Hi (show nbzs l<=134217728 from V0);have HG0:=Hi hg0;have HSN:=Hi hsn;have HS3:=Hi hs3;obtain ⟨⟨e0,e1,e2,e3,e4,e5⟩,z0,z1,z2,z3,z4,z5⟩:=Blk.c6 hXN4;have hgx:=hXN4.lt;have hmf:∀ (fn:Fn) (first cap:Array Value) (w:World),(Instr.makeFunc fn first cap).run Tryz.prog w = .ok (.func fn first cap) w:=fun _ _ _ _=>rfl
 have hfz:fuz (.mk k a s n ps l)=lnTs 0 l fun _=>none:=rfl
 have HFZ:=Hi hfz;obtain ⟨fu,hfu⟩:∃ fu,fuz (.mk k a s n ps l)=fu:=⟨_,rfl⟩;rw [hfu] at HOK HFZ;obtain ⟨res,hres⟩:∃ res,xTs fu 0 l init=res:=⟨_,rfl⟩;have hgoal:xTs (fuz (.mk k a s n ps l)) 0 (lz (.mk k a s n ps l)) init=res:=by rw [hfu];exact hres
 rw [hgoal];have HRES:=Hi hres;clear hT hk hok hP hnb hwn hbn hXn hRn hw1 hw2 hw3 hw4 hs1 hs2 hb1 hb2 hb3 hb4 hm1 hm2 hm3 hX4 hb24 hb14 hbn4 hb04 hF4 hXN4 hR4 hfz hfu hres hgoal hs3
 go_enter_defers Tryz.func29,Tryz.ntmps29
 go_upto_region 1 with fail
 simp only [Nat.add_assoc,Nat.reduceAdd];rw [HW.out];go_upto_region 3 with fail
 (try simp only [HS3.out]);rw [HW4.out];clear hmk1 hmk2 hmk3;go_wp2_with fail
 refine (show Calls Tryz.prog 61 #[.pointer (some ⟨g0+7,0,none⟩),.slice A l.length cA] w4 _ from HLE.out).mono ?_;rintro e w5 ⟨rfl,hF5,hu5⟩;rw [Nat.zero_add,<-HFZ.out] at hF5;have hX5:=HX4.out.upd hu5 V0;have hXN5:=HXN4.out.upd hu5 V0;have hR5:=HR4.out.upd hu5 ⟨V0,V0,V0⟩;have hB5:=HB4.out.trans (hu5.below (B:=w.heap.size) HB4.out.size fun b hb=>VG);have hG5:CG w w5 ⟨g0+7,g0+4,g0+6,g0+5⟩ (.slice none 0 0) fu (fun _=>none) init (fun _=>none) 0:=by
  refine ⟨hX5,HM1.out.upd hu5 V0,HM2.out.upd hu5 V0,fun s=>rfl,fun s hs=>(by cases hs),⟨_,hF5⟩,World.ownsRow_nil _ _ _ _,⟨by show g0+4≠g0+7;omega,by show g0+5≠g0+7;omega,by show g0+6≠g0+7;omega,by show g0+5≠g0+4;omega,by show g0+6≠g0+4;omega,by show g0+6≠g0+5;omega,fun b hb=>(by cases hb)⟩,fun b hb=>?_,Nat.le_refl _,Nat.zero_le _,hB5,HOK.out.2⟩;have h0:=HG0.out;rcases hb with h | h | h | h
  ·have h':b=g0+7:=h;omega
  ·have h':b=g0+4:=h;omega
  ·have h':b=g0+5:=h;omega
  ·cases h
 have HST:=Hi (statements_ (fu:=fu) l (fun y _=>q93 (SizeOf.sizeOf y+1) y (Nat.lt_succ_self _)) w5 ⟨g0+7,g0+4,g0+6,g0+5⟩ (.slice none 0 0) (fun _=>none) init (fun _=>none) 0 A cA hG5 HK.out (by have:=HK.out;show 0+nbzs l<=(0+1) * 134217728;omega) HP.out HOK.out.1);rw [HRES.out] at HST;have HB5:=Hi hB5;have HR5:=Hi hR5;clear e0 e1 e2 e3 e4 e5 z0 z1 z2 z3 z4 z5 hgx;obtain ⟨⟨e0,e1,e2,e3,e4,e5⟩,z0,z1,z2,z3,z4,z5⟩:=Blk.c6 hXN5;have hgx:=hXN5.lt;clear hF5 hu5 hX5 hXN5 hR5 hB5 hG5 HLE;go_wp2_with fail
 refine (show Calls Tryz.prog 62 #[.pointer (some ⟨g0+7,0,none⟩),.slice A l.length cA] w5 _ from HST.out).mono ?_;intro e w6 h6;clear e0 e1 e2 e3 e4 e5 z0 z1 z2 z3 z4 z5 hgx;have hno:∀ b,b=g0+1\/b=g0+2\/b=g0+3->¬ ow ⟨g0+7,g0+4,g0+6,g0+5⟩ (.slice none 0 0) b:=fun b hb h=>by
  exact V3k
 have hlo:∀ b,ow ⟨g0+7,g0+4,g0+6,g0+5⟩ (.slice none 0 0) b->w.heap.size<=b:=fun b h=>by
  have h0:=HG0.out;exact V3k
 cases res with
 | bad a1 er1=>
  obtain ⟨rfl,hu6⟩:=h6;have hR6:=HR5.out.upd hu6 ⟨hno _ (.inl rfl),hno _ (.inr (.inl rfl)),hno _ (.inr (.inr rfl))⟩;have HB6:=Hi (HB5.out.trans (hu6.below (B:=w.heap.size) HB5.out.size hlo));have HR6:=Hi hR6;have HER:=Hi (show er1≠0 from by
   have h:=q3L (num:=worB) (M:=XM) (D:=61) (R:=2000) (fu:=fu) 0 l init;rw [show sfTs worB XM 61 2000 fu 0 l init = .bad a1 er1 from HRES.out] at h;exact h)
  clear hu6 hR6 hno hlo;go_wp2_with fail
  refine leaves_cons (f:=60) (args:=#[.pointer (some ⟨g0+1,0,none⟩),.pointer (some ⟨g0+2,0,none⟩),.pointer (some ⟨g0+3,0,none⟩)]) V3 VM ?_;refine (catch_wrong (g0+1) a1 er1 w6 HR6.out).mono ?_;rintro e u' w7 ⟨rfl,rfl,hR7,hU7⟩;exact ⟨_,res3 hR7 _ rfl rfl rfl,HER.out,rfl,HB6.out.trans (hU7.below (B:=w.heap.size) HB6.out.size fun b hb=>VG)⟩
 | ok d=>
  obtain ⟨rfl,vl6,fm6,m6,hG6,hN6,hu6,hb6,hr6⟩:=h6;simp only [show init.rd = 0 from rfl,Nat.zero_mul,Nat.add_zero,Nat.zero_add] at hb6;clear hr6;have hR6:=HR5.out.upd hu6 ⟨hno _ (.inl rfl),hno _ (.inr (.inl rfl)),hno _ (.inr (.inr rfl))⟩;have hB6:=HB5.out.trans (hu6.below (B:=w.heap.size) HB5.out.size hlo);obtain ⟨vA,vc,rfl⟩:=q0l hG6.lab;obtain ⟨q0,q1,q2,q3,q4,q5,q6⟩:=Blk.c7 hG6.blk;have hgl:=hG6.blk.lt;obtain ⟨c1,c2,c3,f1,f2,f3,hg3⟩:=hR6.cells;have hR7:=hR6.put (.slice vA d.ou.length vc) (.int .i64 0) (.int .i64 0);have hU7:=R3.put_upd (Upd.refl (fun b=>b=g0+1\/b=g0+1+1\/b=g0+1+2) w6) (.slice vA d.ou.length vc) (.int .i64 0) (.int .i64 0);have hns:∀ b,(Value.slice vA d.ou.length vc).ownBlock=some b->¬ (b=g0+1\/b=g0+1+1\/b=g0+1+2):=fun b hb h=>by
   rcases hN6 with h1 | ⟨n1,h1,h2⟩
   ·rw [h1] at hb;cases hb
   ·rw [h2] at hb;cases hb;have hz:=HR5.out.2.2.lt;omega
  have hL7:=Nm.own_updV hG6.lab hU7 hns;have hou:d.ou.length<=maxLen:=by
   have h1:=hG6.oub;have h2:=hG6.rdb;have h3:=HK.out;unfold maxLen;omega
  have HEND:=Hi (show LabP w (.ok d) (.returned (.tuple #[.slice vA d.ou.length vc,.int .i64 0,.int .i64 0])) _ from ⟨hou,⟨vA,vc,rfl,hL7⟩,hB6.trans (hU7.below (B:=w.heap.size) hB6.size fun b hb=>VG)⟩);have HR7:=Hi hR7;have g01:g0+1≠g0+2:=V0;have g02:g0+1≠g0+3:=V0;have g12:g0+2≠g0+3:=V0;clear hG6 hN6 hu6 hb6 hR6 hB6 hR7 hU7 hns hL7 hou hno hlo;go_wp2_with fail
  refine leaves_cons (f:=60) (args:=#[.pointer (some ⟨g0+1,0,none⟩),.pointer (some ⟨g0+2,0,none⟩),.pointer (some ⟨g0+3,0,none⟩)]) V3 VM ?_;refine (catch_idle ⟨g0+1,0,none⟩ ⟨g0+2,0,none⟩ ⟨g0+3,0,none⟩ _).mono ?_;rintro e u' w7 ⟨rfl,rfl,rfl⟩;exact ⟨_,res3 HR7.out _ rfl rfl rfl,HEND.out⟩
end Fl
end Go.Proofs.YtcgibpdjfgjldaaGreatDoor
namespace Go.Proofs.YtcgibpdjfgjldaaGreatDoor.Pa
open Go Go.RowKit Lx Args
theorem own_updV{X:Nat->Prop}{w w':World}{base:Nat}{e:TypeId}{size n:Nat}{v:Value}{xs:List Value}(h:w.ownsRow base e size v n xs)(hu:Upd X w w')(hX:∀ g,v.ownBlock=some g->¬ X g):w'.ownsRow base e size v n xs:=by
 obtain ⟨h1,h2⟩:=h;refine ⟨h1,?_⟩;rcases h2 with h2 | ⟨g,cap,cur,e1,h3,h4,h5⟩
 ·exact .inl h2
 ·exact V3i
theorem own_atV{w:World}{lo:Nat}{e:TypeId}{size n:Nat}{v:Value}{xs:List Value}(h:w.ownsRow lo e size v n xs):∀ g,v.ownBlock=some g->lo<=g/\g < w.heap.size:=fun g hg=>by
 rcases h.2 with ⟨h,_⟩ | ⟨g',cap,cur,h,hb,hh,_⟩
 ·rw [h] at hg;cases hg
 ·rw [h] at hg;cases hg;exact V1Y
def ArrV(e:TypeId)(lo:Nat)(w:World)(v:Value)(xs:List Tr):Prop:=∃ css,w.ownsRow lo e 6 v xs.length css.flatten/\TsIn (fun b=>lo<=b/\v.ownBlock≠some b) w xs css
theorem ArrV.nil(e:TypeId)(lo:Nat)(w:World):ArrV e lo w (.slice none 0 0) []:=⟨[],World.ownsRow_nil _ _ _ _,V0z⟩
theorem ArrV.upd{X:Nat->Prop}{e:TypeId}{lo:Nat}{w w':World}{v:Value}{xs:List Tr}(h:ArrV e lo w v xs)(hu:Upd X w w')(hX:∀ b,X b->b < lo):ArrV e lo w' v xs:=by
 obtain ⟨css,h1,h2⟩:=h;exact ⟨css,own_updV h1 hu fun g hg hx=>by have:=own_atV h1 g hg;have:=hX g hx;omega,h2.upd hu fun b hb hx=>V11⟩
theorem ArrV.node{e:TypeId}{lo:Nat}{w:World}{A:Option Addr}{c:Nat}{xs:List Tr}(h:ArrV e lo w (.slice A xs.length c) xs)(hl:xs.length<=100000)(k a n:Nat)(s:Bs):TIn (fun b=>lo<=b) w (.mk k a s n [] xs) (ndC k a s n A xs.length c none 0 0):=by
 obtain ⟨css,h1,h2⟩:=h;unfold TIn;refine ⟨_,_,none,0,rfl,own_cap h1 hl,⟨V3,V3,V2⟩,Lies.nil _ _,fun b o e=>Vw,css,?_,fun b o e hne=>?_,h2.mono fun b hb _=>hb.1⟩
 ·rcases h1.2 with ⟨h,h0⟩ | ⟨g',cap,cur,h,_⟩
  ·have:xs=[]:=List.eq_nil_of_length_eq_zero h0;subst this;unfold TsIn at h2;subst h2;exact Lies.nil _ _
  ·cases h;exact fun j u hj=>⟨_,rfl,h1.cells (g:=g') rfl j u hj⟩
 ·subst e;rcases h1.2 with ⟨h,h0⟩ | ⟨g',cap,cur,h,hb,_⟩
  ·cases h
  ·cases h;exact hb
end Go.Proofs.YtcgibpdjfgjldaaGreatDoor.Pa
namespace Go.Proofs.YtcgibpdjfgjldaaGreatDoor.Pq
open Go Go.ChangeShapes Go.WideShapes Go.ChangeAt Go.RowKit Lx Args Pa
attribute [local go_sem] fTk0 fTk1 fTk2
end Go.Proofs.YtcgibpdjfgjldaaGreatDoor.Pq
namespace Go.Proofs.YtcgibpdjfgjldaaGreatDoor
namespace Fl
open Go Go.ChangeShapes Go.WideShapes Go.ChangeAt Go.RowKit Lx Args Pa Sh Go.Proofs.YtcgibpdjfgjldaaGreatDoor.Nm
section
variable {num : Num} {M : Int} {D R : Nat} {G : Tz -> Prop}
end
end Fl
namespace Nm
open Go Go.ChangeShapes Go.WideShapes Go.ChangeAt Go.RowKit Lx Args Pa Sh
abbrev zA:Value:=.agg #[.int .i64 0,.string ⟨#[]⟩,.int .u32 0,.int .i64 0,.slice none 0 0,.slice none 0 0]
abbrev nA3:Value:=.agg #[.slice none 0 0,.slice none 0 0,.slice none 0 0]
def BadN(s:Bs)(a:Int)(er:Nat):Prop:=(∃ a':Nat,a=(a':Int)/\BadR ProgR (wordsL s) a' er)\/((wordsL s).er = 0/\er = 120/\∃ x t r,ProgR (wordsL s).l (.ok [x] (t :: r))/\ckB (embz x) = .bad a)
def PgmP(s:ByteArray)(w:World)(e:Ending)(w':World):Prop:=
 (∃ (k a:Nat) (sx:Bs) (n:Nat) (A:Option Addr) (la cA:Nat) (B:Option Addr) (lb cB:Nat) (x:Tr) (t:Tk) (r:List Tk) (vs vp vo:Value) (c:St),e = .returned (.tuple #[nzA (k:Int) (a:Int) sx n A la cA B lb cB,.agg #[vs,vp,vo],.int .i64 0,.int .i64 0])/\(wordsL s.data.toList).er = 0/\ProgR (wordsL s.data.toList).l (.ok [x] (t :: r))/\ckB (embz x) = .ok c /\
  TIn (fun b=>w.heap.size<=b) w' x (ndC k a sx n A la cA B lb cB)/\NaP w.heap.size w' vs vp vo c/\Below w.heap.size w w') \/
 (∃ (a:Int) (er:Nat),e = .returned (.tuple #[zA,nA3,.int .i64 a,.int .i64 (er:Int)])/\er≠0/\BadN s.data.toList a er/\Below w.heap.size w w')
theorem q1I{fn:Func}{p q u v:Tmp}(h:fn.results = #[.cell p 26,.cell q 39,.tmp u,.tmp v])(tmps:Array Value)(W:World){g g':Nat}{cs ds:Array Value}(hp:tmps.getD p undef = .pointer (some ⟨g,0,none⟩))(hq:tmps.getD q undef = .pointer (some ⟨g',0,none⟩))(hg:Blk W g 26 cs)(hg':Blk W g' 39 ds)(hs:some 6=some cs.size)(hs':some 3=some ds.size){x y:Value}(hx:tmps.getD u undef=x)(hy:tmps.getD v undef=y) :
  (results fn tmps).run Tryz.prog W = .ok (.tuple #[.agg cs,.agg ds,x,y]) W:=by
 subst hx;subst hy;have hp':tmps[p]?.getD undef = .pointer (some ⟨g,0,none⟩):=VF;have hq':tmps[q]?.getD undef = .pointer (some ⟨g',0,none⟩):=by simpa using hq
 simp [results,h,hp',hq',asAddr,run_loadVar_row W g 26 26 cs (0,0) _ hg Tryz.underlying26 rfl (szNd.trans hs),run_loadVar_row W g' 39 39 ds (0,0) _ hg' Tryz.underlying39 rfl (szNm.trans hs')]
abbrev put3(w:World)(g:Nat)(a b c:Value):World:=((w.setCell ⟨g,0,none⟩ a).setCell ⟨g,1,none⟩ b).setCell ⟨g,2,none⟩ c
theorem q5H{X:Nat->Prop}{w0 w:World}{g:Nat}(h:Upd X w0 w)(hg:g < w0.heap.size->X g)(a b c:Value):Upd X w0 (put3 w g a b c):=
 ((h.setCell (p:=⟨g,0,none⟩) hg a).setCell (p:=⟨g,1,none⟩) hg b).setCell (p:=⟨g,2,none⟩) hg c
theorem put9{w:World}{g g':Nat}(hne:g≠g'){a b c d e f a1 b1 c1:Value}(h:Blk w g 26 #[a,b,c,d,e,f])(h':Blk w g' 39 #[a1,b1,c1])(a2 b2 c2 d2 e2 f2 a3 b3 c3:Value) :
  Blk (put3 (put6 w g a2 b2 c2 d2 e2 f2) g' a3 b3 c3) g 26 #[a2,b2,c2,d2,e2,f2]/\Blk (put3 (put6 w g a2 b2 c2 d2 e2 f2) g' a3 b3 c3) g' 39 #[a3,b3,c3]/\Upd (fun b=>b=g\/b=g') w (put3 (put6 w g a2 b2 c2 d2 e2 f2) g' a3 b3 c3):=by
 have h1:=Blk.put6 h a2 b2 c2 d2 e2 f2;have h2:=q0e h' hne.symm a2 b2 c2 d2 e2 f2;refine ⟨h1.upd (X:=fun b=>b=g') (q5H (X:=fun b=>b=g') (Upd.refl _ _) (fun _=>rfl) _ _ _) hne,Blk.put3 h2 _ _ _,q5H (q02 (Upd.refl _ _) (fun _=>.inl rfl) _ _ _ _ _ _) (fun _=>.inr rfl) _ _ _⟩
theorem pgm(s:ByteArray)(w:World):Calls Tryz.prog 30 #[.string s] w (PgmP s w):=by
 obtain ⟨w0,hw0,hb0,hB,hs0⟩:=q05 w #[.int .i64 0,.string ⟨#[]⟩,.int .u32 0,.int .i64 0,.slice none 0 0,.slice none 0 0];obtain ⟨w1,hw1,hb1,-⟩:=alK w0 #[.slice none 0 0,.slice none 0 0,.slice none 0 0] 39;have hs1:w1.heap.size=w.heap.size+2:=by rw [<-hw1];simp;omega
 have hC:Blk w1 (w.heap.size+1) 39 #[.slice none 0 0,.slice none 0 0,.slice none 0 0]:=by rw [<-hw1,<-hs0];exact Blk.new _ _ _
 have HB01:=Hi (hb0.trans (hb1.mono hb0.size));obtain ⟨g,hg⟩:∃ g,w.heap.size=g:=⟨_,rfl⟩;obtain ⟨g',hg'⟩:∃ g',g+1=g':=⟨_,rfl⟩;rw [hg] at hB hC;rw [hg'] at hC;have hgg:¬ g=g':=V0;have hgg':¬ g'=g:=V0;have HG:=Hi hg;have HG':=Hi hg';have HB:=Hi (hB.below hb1 hB.lt);have HC:=Hi hC;have HW0:=Hi hw0;have HW1:=Hi hw1;have HP:=Hi (q73 s w1);have HS1:=Hi hs1;have HS0:=Hi hs0;clear hw0 hb0 hB hw1 hb1 hC hs1 hs0 hg hg';go_enter Tryz.func30,Tryz.ntmps30;go_upto_region 1 with fail
 rw [HW0.out];rw [HW1.out];simp only [HG.out,HG'.out];go_wp2_with fail
 refine HP.out.mono ?_;rintro e w2 (⟨k,a,sx,n,A,la,cA,B,lb,cB,x,t,r,rfl,h1,h2,h3,hT,hb⟩ | ⟨a,er,rfl,hbad,hb⟩)
 ·obtain ⟨w3,hw3,hb3,hX3,hs3⟩:=q05 w2 (nB (k:Int) (a:Int) sx n A la cA B lb cB);have hb23:=hb.trans (hb3.mono hb.size);have hT3:=TIz.below hb3 (q30 hT);obtain ⟨hz1,hz2,hz3⟩:=q8W h1 h2;have HCK:=Hi (check (embz x) hz1 hz2 w3 (k:Int) (a:Int) sx n A la cA B lb cB hT3);have HT:=Hi (hT.upd (Upd.of_below hb3 fun _=>False) fun _ _ h=>h);have HX3:=Hi hX3;have HW3:=Hi hw3;have HB3:=Hi hb23;have HS3:=Hi hs3;have HER:=Hi h1;have HRD:=Hi h2;have hsz:=Hi hb.size;obtain ⟨⟨e0,e1,e2,e3,e4,e5⟩,z0,z1,z2,z3,z4,z5⟩:=Blk.c6 hX3;obtain ⟨res,hres⟩:∃ res,ckB (embz x)=res:=⟨_,rfl⟩;have HRES:=Hi hres;rw [hres] at HCK;clear hw3 hb3 hX3 hs3 hb hb23 hT hT3 hz1 hz2 hz3 h1 h2 h3 hres HP;go_wp2_with fail
  rw [HW3.out];refine (show Calls Tryz.prog 28 #[nzA (k:Int) (a:Int) sx n A la cA B lb cB] w3 _ from HCK.out).mono ?_;intro e w4 h4;clear e0 e1 e2 e3 e4 e5 z0 z1 z2 z3 z4 z5 HCK;cases res with
  | bad a1=>
   have h4':e = .returned (.tuple #[nA3,.int .i64 a1,.int .i64 120])/\Below w3.heap.size w3 w4:=h4;clear h4;obtain ⟨rfl,hb4⟩:=h4';obtain ⟨w5,hw5,hb5,-⟩:=alK w4 #[.slice none 0 0,.slice none 0 0,.slice none 0 0] 39;have HW5:=Hi hw5;have hb14:=HB3.out.trans ((hb4.trans (hb5.mono hb4.size)).mono HB3.out.size);have hX:=HB.out.below hb14 HB.out.lt;have hY:=HC.out.below hb14 HC.out.lt;obtain ⟨⟨e0,e1,e2,e3,e4,e5⟩,z0,z1,z2,z3,z4,z5⟩:=Blk.c6 hX;obtain ⟨c0,c1,c2,f0,f1,f2⟩:=Blk.c3 hY;have hb14s:=hb14.size;obtain ⟨p1,p2,p3⟩:=put9 hgg hX hY (.int .i64 0) (.string ⟨#[]⟩) (.int .u32 0) (.int .i64 0) (.slice none 0 0) (.slice none 0 0) (.slice none 0 0) (.slice none 0 0) (.slice none 0 0);have HN1:=Hi p1;have HN2:=Hi p2;have HEND:=Hi (show PgmP s w (.returned (.tuple #[zA,nA3,.int .i64 a1,.int .i64 ((120:Nat):Int)])) _ from .inr ⟨a1,120,rfl,V2,.inr ⟨HER.out,rfl,x,t,r,HRD.out,HRES.out⟩,(HB01.out.trans (hb14.mono VO)).trans (p3.below (by have:=hb14.size;have:=HG.out;have:=HG'.out;have:=HS1.out;omega) fun b hb=>V1X)⟩);clear hX hY hb4 hb14 hb14s p1 p2 p3 hw5 hb5;go_upto_region 5 with fail
   rw [HW5.out];go_wp2_with fail
   exact bodyPost_ret (v:=.tuple #[zA,nA3,.int .i64 a1,.int .i64 120]) (q1I rfl _ _ rfl rfl HN1.out HN2.out rfl rfl rfl rfl) rfl HEND.out
  | ok c=>
   obtain ⟨vs,vp,vo,rfl,⟨os,op,oo,hbd⟩,hb4⟩:=h4;obtain ⟨As,cs,rfl⟩:=q0l os;obtain ⟨Ap,cp,rfl⟩:=q0l op;obtain ⟨Ao,co,rfl⟩:=q0l oo;obtain ⟨w5,hw5,hb5,hY5⟩:=alK w4 #[.slice As c.se.length cs,.slice Ap c.pu.length cp,.slice Ao c.ou.length co] 39;have hb46:=hb5;have hb36:=hb4.trans (hb46.mono hb4.size);have hb16:=HB3.out.trans (hb36.mono HB3.out.size);have hu46:Upd (fun _=>False) w4 w5:=Upd.of_below hb46 _;have hX:=HB.out.below hb16 HB.out.lt;have hY:=HC.out.below hb16 HC.out.lt;have hN6:=HX3.out.below hb36 HX3.out.lt;have hT6:=HT.out.upd (Upd.of_below hb36 fun _=>False) fun _ _ h=>h
   have hsz4:=hb4.size;have hsz3:=HS3.out;have hs12:=HS1.out;have hgo:=HG.out;have hgo':=HG'.out;have hs46:=hb46.size;have hb35:=hb4.trans (hb5.mono hb4.size);have hb15:=HB3.out.trans (hb35.mono HB3.out.size);obtain ⟨⟨e0,e1,e2,e3,e4,e5⟩,z0,z1,z2,z3,z4,z5⟩:=Blk.c6 (HB.out.below hb15 HB.out.lt);obtain ⟨c0,c1,c2,f0,f1,f2⟩:=Blk.c3 (HC.out.below hb15 HC.out.lt);obtain ⟨⟨g0,g1,g2,g3,g4,g5⟩,y0,y1,y2,y3,y4,y5⟩:=Blk.c6 (HX3.out.below hb35 HX3.out.lt);obtain ⟨d0,d1,d2,i0,i1,i2⟩:=Blk.c3 hY5;obtain ⟨p1,p2,p3⟩:=put9 hgg hX hY (.int .i64 (k:Int)) (.string ⟨sx.toArray⟩) (.int .u32 (n:Int)) (.int .i64 (a:Int)) (.slice A la cA) (.slice B lb cB) (.slice As c.se.length cs) (.slice Ap c.pu.length cp) (.slice Ao c.ou.length co);obtain ⟨wp,hwp⟩:∃ wp,put3 (put6 w5 g (.int .i64 (k:Int)) (.string ⟨sx.toArray⟩) (.int .u32 (n:Int)) (.int .i64 (a:Int)) (.slice A la cA) (.slice B lb cB)) g' (.slice As c.se.length cs) (.slice Ap c.pu.length cp) (.slice Ao c.ou.length co)=wp:=⟨_,rfl⟩;rw [hwp] at p1 p2 p3;have hdr:Below wp.heap.size wp wp.drew:=Below.drew (Below.refl _ _);have HN1:=Hi (p1.below hdr p1.lt);have HN2:=Hi (p2.below hdr p2.lt);replace p3:=p3.trans (Upd.of_below hdr _);have hpo:∀ {e:TypeId} {sz m:Nat} {v:Value} {xs:List Value},w4.ownsRow w3.heap.size e sz v m xs->wp.drew.ownsRow w.heap.size e sz v m xs:=fun h=>
    q5j (own_updV (own_updV h hu46 fun _ _ h=>h) p3 fun b hb hq=>by have:=hsz.out;have:=(own_atV h b hb).1;omega) V0w
   have HEND:=Hi (show PgmP s w (.returned (.tuple #[nzA (k:Int) (a:Int) sx n A la cA B lb cB,.agg #[.slice As c.se.length cs,.slice Ap c.pu.length cp,.slice Ao c.ou.length co],.int .i64 0,.int .i64 0])) wp.drew from
    .inl ⟨k,a,sx,n,A,la,cA,B,lb,cB,x,t,r,_,_,_,c,rfl,HER.out,HRD.out,HRES.out,(hT6.upd p3 fun b hb h=>V0w).mono fun b hb _=>V0w,⟨hpo os,hpo op,hpo oo,hbd⟩,(HB01.out.trans (hb16.mono VO)).trans (p3.below (by have:=hb16.size;have:=HS1.out;omega) fun b hb=>V1X)⟩)
   have HW5:=Hi hw5;have hwp':=hwp;unfold put3 put6 at hwp';have HWP:=Hi hwp';have q1:¬ g=w4.heap.size:=V0w;have q2:¬ w4.heap.size=g:=V0w;clear hb35 hb15 hX hY hN6 hT6 hb4 hb5 hb46 hb36 hb16 hu46 hpo hgo hgo' hs12 hsz3 hsz4 hs46 p1 p2 p3 os op oo hbd hw5 hwp hwp' hY5 hdr;go_upto_region 7 with fail
   rw [HW5.out]
   go_region
   all_goals (
    rw [HWP.out];go_wp2_with fail
    exact bodyPost_ret (v:=.tuple #[nzA (k:Int) (a:Int) sx n A la cA B lb cB,.agg #[.slice As c.se.length cs,.slice Ap c.pu.length cp,.slice Ao c.ou.length co],.int .i64 0,.int .i64 0]) (q1I rfl _ _ rfl rfl HN1.out HN2.out rfl rfl rfl rfl) rfl HEND.out)
 ·have hX:=HB.out.below hb HB.out.lt;have hY:=HC.out.below hb HC.out.lt;have hs12:=HS1.out;have hgo:=HG.out;have hgo':=HG'.out;have hbs:=hb.size;have her:=prog_er hbad;obtain ⟨w3,hw3,hb3,hX3,hs3⟩:=q05 w2 #[.int .i64 0,.string ⟨#[]⟩,.int .u32 0,.int .i64 0,.slice none 0 0,.slice none 0 0];have hX':=hX.below hb3 hX.lt;have hY':=hY.below hb3 hY.lt;have hb13:=hb.trans (hb3.mono hb.size);have hbs3:=hb13.size;obtain ⟨⟨e0,e1,e2,e3,e4,e5⟩,z0,z1,z2,z3,z4,z5⟩:=Blk.c6 hX';obtain ⟨c0,c1,c2,f0,f1,f2⟩:=Blk.c3 hY';obtain ⟨p1,p2,p3⟩:=put9 hgg hX' hY' (.int .i64 0) (.string ⟨#[]⟩) (.int .u32 0) (.int .i64 0) (.slice none 0 0) (.slice none 0 0) (.slice none 0 0) (.slice none 0 0) (.slice none 0 0);have HN1:=Hi p1;have HN2:=Hi p2;have hz:((er:Int) != 0)=true:=V4;have HEND:=Hi (show PgmP s w (.returned (.tuple #[zA,nA3,.int .i64 (a:Int),.int .i64 (er:Int)])) _ from .inr ⟨(a:Int),er,rfl,her,.inl ⟨a,rfl,hbad⟩,(HB01.out.trans (hb13.mono VO)).trans (p3.below VO fun b hb=>V1X)⟩);have HW3:=Hi hw3;clear hX hY hX' hY' hb hb13 hb3 hX3 hw3 p1 p2 p3 hbad hgo hgo' hs12 hbs hbs3;go_upto_region 2 with fail
  rw [HW3.out];go_wp2_with fail
  exact bodyPost_ret (v:=.tuple #[zA,nA3,.int .i64 (a:Int),.int .i64 (er:Int)]) (q1I rfl _ _ rfl rfl HN1.out HN2.out rfl rfl rfl rfl) rfl HEND.out
end Nm
namespace Fl
open Go Go.ChangeShapes Go.WideShapes Go.ChangeAt Go.RowKit Lx Args Pa Sh Go.Proofs.YtcgibpdjfgjldaaGreatDoor.Nm
def okG(z:Tz):Prop:=lenz z/\nz z/\nbz z<=134217728
/-! What the grammar reads is within bounds. -/
mutual
theorem q8w{Q:Bs->Prop}:∀ (x:Tr),gE Q x->nz (embz x)
 | .mk k a s n ps l,h=>by
  unfold gE at h;unfold embz nz;exact ⟨h.2.2.1,q94 l h.2.1⟩
theorem q94{Q:Bs->Prop}:∀ (l:List Tr),gEs Q l->nzs (embs l)
 | [],_=>V2f
 | x :: l,h=>by
  unfold gEs at h;unfold embs nzs;exact ⟨q8w x h.1,q94 l h.2⟩
end
mutual
theorem nz_gS{Q:Bs->Prop}:∀ (x:Tr),gS Q x->nz (embz x)
 | .mk k a s n ps l,h=>by
  unfold gS at h;unfold embz nz;refine ⟨by rw [h.1];decide,?_⟩;rcases h.2.2.2 with ⟨_,_,h⟩ | ⟨_,_,h⟩
  ·exact q8x _ l h
  ·exact q8x _ l h
theorem q8x{Q:Bs->Prop}:∀ (i:Nat) (l:List Tr),gA Q i l->nzs (embs l)
 | _,[],_=>V2f
 | 0,x :: l,h=>by
  unfold gA at h;unfold embs nzs;exact ⟨nz_gS x h.1,q8x 0 l h.2⟩
 | i+1,x :: l,h=>by
  unfold gA at h;unfold embs nzs;exact ⟨q8w x h.1,q8x i l h.2⟩
end
theorem nz_gT{Q:Bs->Prop}{x:Tr}(h:gT Q x):nz (embz x):=by
 obtain ⟨k,a,s,n,ps,l⟩:=x;unfold gT at h;rcases h with h | ⟨hn,h⟩
 ·exact nz_gS _ h
 ·unfold embz nz;refine ⟨by rw [hn];decide,?_⟩;rcases h with ⟨_,_,rfl,_⟩ | ⟨_,_,_,x,rfl,hx⟩ | ⟨_,_,_,_,x,rfl,hx⟩
  ·unfold embs nzs;trivial
  ·unfold embs embs nzs nzs;exact ⟨q8w x hx,trivial⟩
  ·unfold embs embs nzs nzs;exact ⟨q8w x hx,trivial⟩
theorem q95{Q:Bs->Prop}:∀ {l:List Tr},(∀ y∈l,gT Q y)->nzs (embs l)
 | [],_=>V2f
 | x :: l,h=>by
  unfold embs nzs;exact ⟨nz_gT (h x V3),q95 fun y hy=>h y (by simp [hy])⟩
theorem q5I{s:Bs}{x:Tr}{t:Tk}{r:List Tk}(he:(wordsL s).er = 0)(h:ProgR (wordsL s).l (.ok [x] (t :: r))):okG (embz x):=by
 obtain ⟨h1,_,_⟩:=q8W he h;obtain ⟨zs,e1,h2,_⟩:=h;simp only [List.cons.injEq,and_true] at e1;subst e1;obtain ⟨f,hf⟩:=h2.at_;have hm:=q4X (num:=numV) f (.stmts []) 0 (wordsL s).l;rw [hf] at hm;have hw:=q3F he;have hm1:=hm.1;have hwz:wts zs<=80004000:=by
  have:baseN (.stmts []) = 0:=rfl;omega
 have hg:=q4H (num:=numV) (Q:=fun _=>True) q4W f (.stmts []) 0 (wordsL s).l trivial (fun _ _ _=>trivial);rw [hf] at hg;obtain ⟨ys,e,hy⟩:=hg.1;have hys:zs=ys:=V0A;subst hys;refine ⟨h1,?_,?_⟩
 ·unfold embz nz;exact ⟨V2,q95 hy⟩
 ·exact V3v
def FpB(s:Bs)(a:Int)(er:Nat):Prop:=BadN s a er\/((wordsL s).er = 0/\∃ x t r c,ProgR (wordsL s).l (.ok [x] (t :: r))/\ckB (embz x) = .ok c/\flB worB XM 61 2000 (embz x) = .bad a er)
end Fl
namespace Ev
open Go Go.ChangeShapes Go.WideShapes Go.ChangeAt Go.RowKit Lx Args Pa Sh Go.Proofs.YtcgibpdjfgjldaaGreatDoor.Nm Fl
def FpT(s:ByteArray)(w:World)(e:Ending)(w':World):Prop:=
 (∃ (k a:Int) (sx:Bs) (n:Nat) (A:Option Addr) (la cA:Nat) (B:Option Addr) (lb cB:Nat) (As:Option Addr) (ls cs:Nat) (Ap:Option Addr) (lp cp:Nat) (Ao:Option Addr) (co:Nat) (x:Tr) (t:Tk) (r:List Tk) (c:St) (d:Sf),e = .returned (.tuple #[nzA k a sx n A la cA B lb cB,.agg #[.slice As ls cs,.slice Ap lp cp,.slice Ao d.ou.length co],.int .i64 0,.int .i64 0])/\(wordsL s.data.toList).er = 0/\ProgR (wordsL s.data.toList).l (.ok [x] (t :: r))/\ckB (embz x) = .ok c/\flB worB XM 61 2000 (embz x) = .ok d /\
  Lies w' Ao (d.ou.flatMap lbC)/\Below w.heap.size w w'/\TrV w' (embz x) k a sx n A la cA B lb cB) \/
 (∃ (a:Int) (er:Nat),e = .returned (.tuple #[zA,nA3,.int .i64 a,.int .i64 (er:Int)])/\er≠0/\FpB s.data.toList a er/\Below w.heap.size w w')
theorem fpgmT(s:ByteArray)(w:World):Calls Tryz.prog 13 #[.string s] w (FpT s w):=by
 obtain ⟨w0,hw0,hb0,hB,hs0⟩:=q05 w #[.int .i64 0,.string ⟨#[]⟩,.int .u32 0,.int .i64 0,.slice none 0 0,.slice none 0 0];obtain ⟨w1,hw1,hb1,-⟩:=alK w0 #[.slice none 0 0,.slice none 0 0,.slice none 0 0] 39;have hs1:w1.heap.size=w.heap.size+2:=by rw [<-hw1];simp;omega
 have hC:Blk w1 (w.heap.size+1) 39 #[.slice none 0 0,.slice none 0 0,.slice none 0 0]:=by rw [<-hw1,<-hs0];exact Blk.new _ _ _
 have HB01:=Hi (hb0.trans (hb1.mono hb0.size));obtain ⟨g,hg⟩:∃ g,w.heap.size=g:=⟨_,rfl⟩;obtain ⟨g',hg'⟩:∃ g',g+1=g':=⟨_,rfl⟩;rw [hg] at hB hC;rw [hg'] at hC;have hgg:¬ g=g':=V0;have hgg':¬ g'=g:=V0;have HG:=Hi hg;have HG':=Hi hg';have HB:=Hi (hB.below hb1 hB.lt);have HC:=Hi hC;have HW0:=Hi hw0;have HW1:=Hi hw1;have HP:=Hi (pgm s w1);have HS1:=Hi hs1;have HS0:=Hi hs0;clear hw0 hb0 hB hw1 hb1 hC hs1 hs0 hg hg';go_enter Tryz.func13,Tryz.ntmps13;go_upto_region 1 with fail
 rw [HW0.out];rw [HW1.out];simp only [HG.out,HG'.out];go_wp2_with fail
 refine HP.out.mono ?_;rintro e w2 (⟨k,a,sx,n,A,la,cA,B,lb,cB,x,t,r,vs,vp,vo,c,rfl,h1,h2,h3,hT,hN,hb⟩ | ⟨a,er,rfl,hne,hbad,hb⟩)
 ·obtain ⟨As,cs,rfl⟩:=q0l hN.1;obtain ⟨Ap,cp,rfl⟩:=q0l hN.2.1;obtain ⟨Ao,co,rfl⟩:=q0l hN.2.2.1;obtain ⟨w3,hw3,hb3,hX3,hs3⟩:=q05 w2 (nB (k:Int) (a:Int) sx n A la cA B lb cB);obtain ⟨w4,hw4,hb4,hY4⟩:=alK w3 #[.slice As c.se.length cs,.slice Ap c.pu.length cp,.slice Ao c.ou.length co] 39;have hb24:=hb3.trans (hb4.mono hb3.size);have hb14:=hb.trans (hb24.mono hb.size);have hX4:=hX3.below hb4 hX3.lt;have hT4:=TIz.below hb24 (q30 hT);have hok:=q5I h1 h2;have HL:=Hi (labels_ (embz x) w4 (k:Int) (a:Int) sx n A la cA B lb cB ⟨hT4,hok.1,hok.2.1⟩ hok.2.2 (ck_ar h3));obtain ⟨gn,hgn⟩:∃ gn,w2.heap.size=gn:=⟨_,rfl⟩;obtain ⟨gm,hgm⟩:∃ gm,gn+1=gm:=⟨_,rfl⟩;rw [hgn] at hX4 hX3;rw [hs3,hgn,hgm] at hY4;have hgnm:gn < gm:=V0;have HGN:=Hi hgn;have HGM:=Hi hgm;have hg1:g' < gn:=by have:=HC.out.lt;have:=hb.size;omega
  have HX4:=Hi hX4;have HY4:=Hi hY4;have HW3:=Hi hw3;have HW4:=Hi hw4;have HB4:=Hi hb14;have HER:=Hi h1;have HRD:=Hi h2;have HCK:=Hi h3;obtain ⟨⟨e0,e1,e2,e3,e4,e5⟩,z0,z1,z2,z3,z4,z5⟩:=Blk.c6 hX4;have hgx:=hX4.lt;obtain ⟨res,hres⟩:∃ res,flB worB XM 61 2000 (embz x)=res:=⟨_,rfl⟩;have HRES:=Hi hres;rw [hres] at HL;have hgg1:g < gn:=by have:=HG'.out;omega
  have HTI:=Hi hT;have HB24:=Hi hb24;clear hN hw3 hb3 hX3 hs3 hw4 hb4 hY4 hb24 hb14 hX4 hT4 hok hT hb h1 h2 h3 hres HP hgn hgm;go_upto_region 2 with fail
  rw [HW3.out,HW4.out];simp only [HGN.out,HGM.out];go_wp2_with fail
  refine (show Calls Tryz.prog 29 #[nzA (k:Int) (a:Int) sx n A la cA B lb cB] w4 _ from HL.out).mono ?_;intro e w5 h5;clear e0 e1 e2 e3 e4 e5 z0 z1 z2 z3 z4 z5 hgx;cases res with
  | bad a1 er1=>
   obtain ⟨her,rfl,hb5⟩:=h5;have hY5:=HY4.out.below hb5 HY4.out.lt;have hX5:=HX4.out.below hb5 HX4.out.lt;have hb15:=HB4.out.trans (hb5.mono HB4.out.size);have hA5:=HB.out.below hb15 HB.out.lt;have hC5:=HC.out.below hb15 HC.out.lt;obtain ⟨d0,d1,d2,f0,f1,f2⟩:=fst3 hY5;have hgy:=hY5.lt;obtain ⟨w6,hw6⟩:∃ u,w5.setCell ⟨gm,2,none⟩ (.slice none 0 0)=u:=⟨_,rfl⟩;have hu6:Upd (fun b=>b=gm) w5 w6:=V44;have hB15:=HB01.out.trans (hb15.mono VO);have hB16:=hB15.trans (hu6.below (B:=w.heap.size) hB15.size fun b hb=>V0x);have hA6:=hA5.upd hu6 V0;have hC6:=hC5.upd hu6 V0;obtain ⟨⟨e0,e1,e2,e3,e4,e5⟩,z0,z1,z2,z3,z4,z5⟩:=Blk.c6 hA6;obtain ⟨c0,c1,c2,x0,x1,x2⟩:=fst3 hC6;have hgl:=hA6.lt;have hgl':=hC6.lt;obtain ⟨p1,p2,p3⟩:=put9 hgg hA6 hC6 (.int .i64 0) (.string ⟨#[]⟩) (.int .u32 0) (.int .i64 0) (.slice none 0 0) (.slice none 0 0) (.slice none 0 0) (.slice none 0 0) (.slice none 0 0);have HN1:=Hi p1;have HN2:=Hi p2;have hz:((er1:Int) != 0)=true:=V4;have HW6:=Hi hw6;have HEND:=Hi (show FpT s w (.returned (.tuple #[zA,nA3,.int .i64 a1,.int .i64 (er1:Int)])) _ from .inr ⟨a1,er1,rfl,her,.inr ⟨HER.out,x,t,r,c,HRD.out,HCK.out,HRES.out⟩,hB16.trans (p3.below (B:=w.heap.size) hB16.size fun b hb=>V0x)⟩);clear hb5 hY5 hX5 hb15 hB15 hB16 hA5 hC5 hw6 hu6 hA6 hC6 p1 p2 p3 HL her;go_upto_region 5 with fail
   rw [HW6.out];go_wp2_with fail
   exact bodyPost_ret (v:=.tuple #[zA,nA3,.int .i64 a1,.int .i64 (er1:Int)]) (q1I rfl _ _ rfl rfl HN1.out HN2.out rfl rfl rfl rfl) rfl HEND.out
  | ok d=>
   obtain ⟨hou,⟨A5,k5,rfl,hL5⟩,hb5⟩:=h5;have hY5:=HY4.out.below hb5 HY4.out.lt;have hX5:=HX4.out.below hb5 HX4.out.lt;have hb15:=HB4.out.trans (hb5.mono HB4.out.size);have hA5:=HB.out.below hb15 HB.out.lt;have hC5:=HC.out.below hb15 HC.out.lt;obtain ⟨d0,d1,d2,f0,f1,f2⟩:=fst3 hY5;have hgy:=hY5.lt;obtain ⟨w6,hw6⟩:∃ u,w5.setCell ⟨gm,2,none⟩ (.slice A5 d.ou.length k5)=u:=⟨_,rfl⟩;have hu6:Upd (fun b=>b=gm) w5 w6:=V44;have hY6:Blk w6 gm 39 #[.slice As c.se.length cs,.slice Ap c.pu.length cp,.slice A5 d.ou.length k5]:=by rw [<-hw6];exact hY5.set 2 _
   have hB15:=HB01.out.trans (hb15.mono VO);have hB16:=hB15.trans (hu6.below (B:=w.heap.size) hB15.size fun b hb=>V0x);have hA6:=hA5.upd hu6 V0;have hC6:=hC5.upd hu6 V0;have hX6:=hX5.upd hu6 V0;obtain ⟨c0,c1,c2,x0,x1,x2⟩:=fst3 hC6;obtain ⟨⟨e0,e1,e2,e3,e4,e5⟩,z0,z1,z2,z3,z4,z5⟩:=Blk.c6 hA6;obtain ⟨⟨b0,b1,b2,b3,b4,b5⟩,y0,y1,y2,y3,y4,y5⟩:=Blk.c6 hX6;obtain ⟨q0,q1,q2,u0,u1,u2⟩:=fst3 hY6;have hgl:=hA6.lt;have hgl':=hC6.lt;have hgl2:=hX6.lt;have hgl3:=hY6.lt;obtain ⟨p1,p2,p3⟩:=put9 hgg hA6 hC6 (.int .i64 (k:Int)) (.string ⟨sx.toArray⟩) (.int .u32 (n:Int)) (.int .i64 (a:Int)) (.slice A la cA) (.slice B lb cB) (.slice As c.se.length cs) (.slice Ap c.pu.length cp) (.slice A5 d.ou.length k5);obtain ⟨wp,hwp⟩:∃ wp,Nm.put3 (Pa.put6 w6 g (.int .i64 (k:Int)) (.string ⟨sx.toArray⟩) (.int .u32 (n:Int)) (.int .i64 (a:Int)) (.slice A la cA) (.slice B lb cB)) g' (.slice As c.se.length cs) (.slice Ap c.pu.length cp) (.slice A5 d.ou.length k5)=wp:=⟨_,rfl⟩;rw [hwp] at p1 p2 p3;have hdr:Below wp.heap.size wp wp.drew:=Below.drew (Below.refl _ _);have HN1:=Hi (p1.below hdr p1.lt);have HN2:=Hi (p2.below hdr p2.lt);have p3':=p3.trans (Upd.of_below hdr (fun b=>b=g\/b=g'));have hb25:=HB24.out.trans (hb5.mono HB24.out.size);have hb26:=hb25.trans ((hu6.below (B:=w2.heap.size) hb25.size fun b hb=>by have:=HGN.out;have:=HGM.out;omega));have hT7:=TIn.far HTI.out ((Upd.of_below hb26 (fun b=>b=g\/b=g')).trans p3') (fun b hb=>by have:=HG.out;have:=HG'.out;have:=HS1.out;omega);have hok7:=q5I HER.out HRD.out;have HEND:=Hi (show FpT s w (.returned (.tuple #[nzA (k:Int) (a:Int) sx n A la cA B lb cB,.agg #[.slice As c.se.length cs,.slice Ap c.pu.length cp,.slice A5 d.ou.length k5],.int .i64 0,.int .i64 0])) wp.drew from
    .inl ⟨k,a,sx,n,A,la,cA,B,lb,cB,As,_,cs,Ap,_,cp,A5,k5,x,t,r,c,d,rfl,HER.out,HRD.out,HCK.out,HRES.out,q0E (Nm.own_updV (Nm.own_updV hL5 hu6 fun b hb e=>V4u) p3' fun b hb e=>V4u),hB16.trans (p3'.below (B:=w.heap.size) hB16.size fun b hb=>V0x),⟨q30 hT7,hok7.1,hok7.2.1⟩⟩)
   have HW6:=Hi hw6;have hwp':=hwp;unfold Nm.put3 Pa.put6 at hwp';have HWP:=Hi hwp';have i1:¬ g=gm:=V0;have i2:¬ gm=g:=V0;have i3:¬ g'=gm:=V0;have i4:¬ gm=g':=V0;have i5:¬ g=gn:=V0;have i6:¬ gn=g:=V0;have i7:¬ g'=gn:=V0;have i8:¬ gn=g':=V0;clear hb5 hY5 hX5 hb15 hB15 hB16 hA5 hC5 hw6 hu6 hA6 hC6 hX6 hY6 p1 p2 p3 p3' hwp hwp' hdr HL hou hL5 hb25 hb26 hT7 hok7;go_upto_region 5 with fail
   rw [HW6.out];go_upto_region 7 with fail
   go_region
   all_goals (
    rw [HWP.out];go_wp2_with fail
    exact bodyPost_ret (v:=.tuple #[nzA (k:Int) (a:Int) sx n A la cA B lb cB,.agg #[.slice As c.se.length cs,.slice Ap c.pu.length cp,.slice A5 d.ou.length k5],.int .i64 0,.int .i64 0]) (q1I rfl _ _ rfl rfl HN1.out HN2.out rfl rfl rfl rfl) rfl HEND.out)
 ·have hX:=HB.out.below hb HB.out.lt;have hY:=HC.out.below hb HC.out.lt;obtain ⟨w3,hw3,hb3,hX3,hs3⟩:=q05 w2 #[.int .i64 0,.string ⟨#[]⟩,.int .u32 0,.int .i64 0,.slice none 0 0,.slice none 0 0];obtain ⟨w4,hw4,hb4,-⟩:=alK w3 #[.slice none 0 0,.slice none 0 0,.slice none 0 0] 39;have hb24:=hb3.trans (hb4.mono hb3.size);have hb14:=hb.trans (hb24.mono hb.size);have hX':=hX.below hb24 hX.lt;have hY':=hY.below hb24 hY.lt;obtain ⟨⟨e0,e1,e2,e3,e4,e5⟩,z0,z1,z2,z3,z4,z5⟩:=Blk.c6 hX';obtain ⟨c0,c1,c2,f0,f1,f2⟩:=fst3 hY';have hgl:=hX'.lt;have hgl':=hY'.lt;obtain ⟨p1,p2,p3⟩:=put9 hgg hX' hY' (.int .i64 0) (.string ⟨#[]⟩) (.int .u32 0) (.int .i64 0) (.slice none 0 0) (.slice none 0 0) (.slice none 0 0) (.slice none 0 0) (.slice none 0 0);have HN1:=Hi p1;have HN2:=Hi p2;have hz:((er:Int) != 0)=true:=V4;have HEND:=Hi (show FpT s w (.returned (.tuple #[zA,nA3,.int .i64 a,.int .i64 (er:Int)])) _ from .inr ⟨a,er,rfl,hne,.inl hbad,(HB01.out.trans (hb14.mono VO)).trans (p3.below (by have:=hb14.size;have:=HS1.out;omega) fun b hb=>V0x)⟩);have HW3:=Hi hw3;have HW4:=Hi hw4;clear hX hY hX' hY' hb hb14 hb24 hb3 hb4 hX3 hw3 hw4 hs3 p1 p2 p3 hbad hne;go_upto_region 2 with fail
  rw [HW3.out,HW4.out];go_wp2_with fail
  exact bodyPost_ret (v:=.tuple #[zA,nA3,.int .i64 a,.int .i64 (er:Int)]) (q1I rfl _ _ rfl rfl HN1.out HN2.out rfl rfl rfl rfl) rfl HEND.out
end Ev
end Go.Proofs.YtcgibpdjfgjldaaGreatDoor
