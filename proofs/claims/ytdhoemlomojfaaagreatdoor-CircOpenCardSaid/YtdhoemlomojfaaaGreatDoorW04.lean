/- DERIVED. CiFit, CiCan, CiRow. By an AI agent. -/
import Derived.Test.YtdhoemlomojfaaaGreatDoorW01
import Derived.Test.YtdhoemlomojfaaaGreatDoorW03
import Derived.Shelf.Abstract
import Derived.Laws.MakeOwn
set_option maxRecDepth 100000
set_option maxHeartbeats 4000000
set_option linter.unusedVariables false
set_option linter.unusedSimpArgs false
namespace Go.Proofs.YtdhoemlomojfaaaGreatDoor.Ci
open Go Go.ChangeShapes Go.WideShapes Go.ChangeAt Go.RowKit Args WMath Word
theorem fits(w:World){A:Option Addr}{cA:Nat}{B:Option Addr}{cB:Nat}{l:List Gt}{os:List TI}(hC:Cir w A cA B cB l os)(sc pb:Int)(h1:cnt sc=true)(h2:cnt pb=true)(hl:l.length≤8000)(i:Nat)(hi:i < l.length) :
  Calls Tryz.prog 18 #[crV A l.length cA sc pb B os.length cB,.int .i64 (i:Int)] w fun e w'=>e = .returned (.bool (fiL sc pb l i))∧Below w.heap.size w w':=by
 obtain ⟨g,hg⟩:∃ g,l[i]?=some g:=⟨_,List.getElem?_eq_getElem hi⟩;rw [fiL_at hg];obtain ⟨w1,hw1,hb1,hX1,hs1⟩:=c_box w (crB A l.length cA sc pb B os.length cB);obtain ⟨w2,hw2,hb2,hY2,hs2⟩:=g_box w1 (gB g);have hC1:=hC.below hb1;obtain ⟨p,o,rfl,hlt,c0,c1,c2,c3,c4⟩:=hC1.gate hg;obtain ⟨e0,e1,e2,e3,z0,z1,z2,z3⟩:=Blk.c4 hX1;have hgl:=hX1.lt;have hil:(i:Int) < (l.length:Int):=by omega
 have HB:=Hi (hb1.trans (hb2.mono hb1.size));have HW1:=Hi hw1;have HW2:=Hi hw2;have HX2:=Hi (hX1.below hb2 hX1.lt);have HY2:=Hi hY2;have HC2:=Hi (hC1.below hb2);have HT:=Hi (takes w2 g.k);have HPA:=Hi (isPlace w2 g.a i (decide (0 < tk g.k)));have q2:decide ((1:Int) < (tk g.k:Int))=decide (1 < tk g.k):=decide_eq_decide.2 (by omega);have HPB:=Hi (show Calls Tryz.prog 29 #[.int .i64 g.b,.int .i64 (i:Int),.bool (decide ((1:Int) < (tk g.k:Int)))] w2 fun e w'=>e = .returned (.bool (plc g.b i (decide (1 < tk g.k))))∧w'=w2 from (isPlace w2 g.b i (decide ((1:Int) < (tk g.k:Int)))).mono fun e w' h=>by rw [q2] at h;exact h);have hsz:i < 9223372036854775807:=by omega
 clear q2 hw1 hw2 hb1 hb2 hX1 hY2 hs1 hs2 hC hC1;have hfi:fiB sc pb l i g=(decide (0≤g.k∧g.k < 12) && (plc g.a i (decide (0 < tk g.k)) && plc g.b i (decide (1 < tk g.k))) && (decide ((g.n.toNat:Int) < nmI sc pb g.k) && (g.s==seB l g))):=rfl;by_cases hk:0≤g.k∧g.k < 12;rotate_left
 ·have hz:fiB sc pb l i g=false:=by rw [hfi,decide_eq_false hk];simp
  rw [hz];have hkk:g.k < 0∨12≤g.k:=by omega
  clear hfi hz;rcases hkk with hk1 | hk1
  ·go_enter Tryz.func18,Tryz.ntmps18;go_upto_region 1 with fail
   rw [HW1.out];go_upto_region 2 with fail
   rw [HW2.out];clear e0 e1 e2 e3 z0 z1 z2 z3 c0 c1 c2 c3 c4 hlt;obtain ⟨⟨e0,e1,e2,e3,e4⟩,z0,z1,z2,z3,z4⟩:=Blk.c5 HY2.out;have hgl2:=HY2.out.lt;go_wp2_with fail
   go_ret;exact ⟨rfl,HB.out⟩
  ·have hk0:¬ g.k < 0:=by omega
   go_enter Tryz.func18,Tryz.ntmps18;go_upto_region 1 with fail
   rw [HW1.out];go_upto_region 2 with fail
   rw [HW2.out];clear e0 e1 e2 e3 z0 z1 z2 z3 c0 c1 c2 c3 c4 hlt;obtain ⟨⟨e0,e1,e2,e3,e4⟩,z0,z1,z2,z3,z4⟩:=Blk.c5 HY2.out;have hgl2:=HY2.out.lt;go_wp2_with fail
   go_ret;exact ⟨rfl,HB.out⟩
 rw [decide_eq_true hk,Bool.true_and] at hfi;rw [hfi];have hin:fiB sc pb l i g=fiB sc pb l i g:=rfl;have HA:plc g.a i (decide (0 < tk g.k))=true→(0 < tk g.k→g.a.toNat < l.length∧g.a=(g.a.toNat:Int)):=fun h ht=>by
  rw [decide_eq_true ht] at h;have:=plc_in h;exact ⟨by omega,this.2⟩
 have HBB:plc g.b i (decide (1 < tk g.k))=true→(1 < tk g.k→g.b.toNat < l.length∧g.b=(g.b.toNat:Int)):=fun h ht=>by
  rw [decide_eq_true ht] at h;have:=plc_in h;exact ⟨by omega,this.2⟩
 generalize plc g.a i (decide (0 < tk g.k))=ra at HPA HA ⊢;generalize plc g.b i (decide (1 < tk g.k))=rb at HPB HBB ⊢;obtain ⟨hk1,hk2⟩:=hk;obtain ⟨t,ht⟩:∃ t,tk g.k=t:=⟨_,rfl⟩;have HTK:=Hi ht;rw [ht] at HT HPA HPB;clear hfi hin ht;cases ra with
 | false=>
  rw [Bool.false_and,Bool.false_and];go_enter Tryz.func18,Tryz.ntmps18;go_upto_region 1 with fail
  rw [HW1.out];go_upto_region 2 with fail
  rw [HW2.out];clear e0 e1 e2 e3 z0 z1 z2 z3 c0 c1 c2 c3 c4 hlt;obtain ⟨⟨e0,e1,e2,e3,e4⟩,z0,z1,z2,z3,z4⟩:=Blk.c5 HY2.out;have hgl2:=HY2.out.lt;go_wp2_with fail
  refine (show Calls Tryz.prog 28 #[.int .i64 g.k] w2 _ from HT.out).mono ?_;rintro e w3 ⟨rfl,rfl⟩;go_wp2_with fail
  refine (show Calls Tryz.prog 29 #[.int .i64 g.a,.int .i64 (i:Int),.bool (decide (0 < t))] w3 _ from HPA.out).mono ?_;rintro e w4 ⟨rfl,rfl⟩;go_wp2_with fail
  go_ret;exact ⟨rfl,HB.out⟩
 | true=>
  rw [Bool.true_and];cases rb with
  | false=>
   rw [Bool.false_and];go_enter Tryz.func18,Tryz.ntmps18;go_upto_region 1 with fail
   rw [HW1.out];go_upto_region 2 with fail
   rw [HW2.out];clear e0 e1 e2 e3 z0 z1 z2 z3 c0 c1 c2 c3 c4 hlt;obtain ⟨⟨e0,e1,e2,e3,e4⟩,z0,z1,z2,z3,z4⟩:=Blk.c5 HY2.out;have hgl2:=HY2.out.lt;go_wp2_with fail
   refine (show Calls Tryz.prog 28 #[.int .i64 g.k] w2 _ from HT.out).mono ?_;rintro e w3 ⟨rfl,rfl⟩;go_wp2_with fail
   refine (show Calls Tryz.prog 29 #[.int .i64 g.a,.int .i64 (i:Int),.bool (decide (0 < t))] w3 _ from HPA.out).mono ?_;rintro e w4 ⟨rfl,rfl⟩;go_wp2_with fail
   refine (show Calls Tryz.prog 29 #[.int .i64 g.b,.int .i64 (i:Int),.bool (decide ((1:Int) < (t:Int)))] w4 _ from HPB.out).mono ?_;rintro e w5 ⟨rfl,rfl⟩;go_wp2_with fail
   go_ret;exact ⟨rfl,HB.out⟩
  | true=>
   rw [Bool.true_and];have HA1:=Hi (HA rfl);have HB1:=Hi (HBB rfl);clear HA HBB;have hn0:=(nm_nat h1 h2 g.k).1;have HNU0:=Hi fun v=>numbers v (some ⟨p,o,none⟩) l.length cA sc pb B os.length cB h1 h2 g.k
   generalize nmI sc pb g.k=nm at HNU0 hn0 ⊢;have hcnv:((g.n.toNat:Int) % 18446744073709551616)=(g.n.toNat:Int):=Int.emod_eq_of_lt (by omega) (by have:=g.n.isLt;omega);have hcnv2:IntKind.u64.wrap (g.n.toNat:Int)=(g.n.toNat:Int):=hcnv;by_cases hlt5:(g.n.toNat:Int) < nm
   ·rw [decide_eq_true hlt5,Bool.true_and];go_enter Tryz.func18,Tryz.ntmps18;go_upto_region 1 with fail
    rw [HW1.out];go_upto_region 2 with fail
    rw [HW2.out];clear e0 e1 e2 e3 z0 z1 z2 z3 c0 c1 c2 c3 c4 hlt;obtain ⟨⟨e0,e1,e2,e3,e4⟩,z0,z1,z2,z3,z4⟩:=Blk.c5 HY2.out;have hgl2:=HY2.out.lt;go_wp2_with fail
    refine (show Calls Tryz.prog 28 #[.int .i64 g.k] w2 _ from HT.out).mono ?_;rintro e w3 ⟨rfl,rfl⟩;go_wp2_with fail
    refine (show Calls Tryz.prog 29 #[.int .i64 g.a,.int .i64 (i:Int),.bool (decide (0 < t))] w3 _ from HPA.out).mono ?_;rintro e w4 ⟨rfl,rfl⟩;go_wp2_with fail
    refine (show Calls Tryz.prog 29 #[.int .i64 g.b,.int .i64 (i:Int),.bool (decide ((1:Int) < (t:Int)))] w4 _ from HPB.out).mono ?_;rintro e w5 ⟨rfl,rfl⟩;go_wp2_with fail
    have hdr:Below w5.heap.size w5 w5.drew:=Below.drew (Below.refl _ _);obtain ⟨wd,hwd⟩:∃ v,w5.drew=v:=⟨_,rfl⟩;rw [hwd] at hdr;have HXd:=Hi (HX2.out.below hdr HX2.out.lt);have HYd:=Hi (HY2.out.below hdr HY2.out.lt);have HBd:=Hi (HB.out.trans (hdr.mono HB.out.size));have HCd:=Hi (HC2.out.below hdr);have HNU:=Hi (HNU0.out wd);have hZ0:Below wd.heap.size wd wd:=Below.refl _ _;clear hdr e0 e1 e2 e3 e4 z0 z1 z2 z3 z4 hgl hgl2 HX2 HY2 HC2 HT HPA HPB HW1 HW2 HB HNU0;refine HT.wp_region (Z:=fun w'=>Below wd.heap.size wd w') (S:=fun _=>True) (st:=[]) (by kernel_rfl) ?_;rw [hwd];clear hwd;refine HT.tm 0 rfl hZ0 HT.tr ?_;refine HT.tk 1 rfl (by intro v hSw;have hy:=HYd.out.below hSw HYd.out.lt;obtain ⟨⟨e0,e1,e2,e3,e4⟩,z0,z1,z2,z3,z4⟩:=Blk.c5 hy;have hgy:=hy.lt;clear hSw hy;go_simp;try with_reducible rfl) hZ0 HT.tr ?_;refine HT.tm 2 rfl hZ0 HT.tr ?_;refine HT.tk 3 rfl (by intro v hSw;have hy:=HXd.out.below hSw HXd.out.lt;obtain ⟨e0,e1,e2,e3,z0,z1,z2,z3⟩:=Blk.c4 hy;have hgy:=hy.lt;clear hSw hy;go_simp;try with_reducible rfl) hZ0 HT.tr ?_;refine HT.tm 4 rfl hZ0 HT.tr ?_;refine HT.tk 5 rfl (by intro v hSw;have hy:=HYd.out.below hSw HYd.out.lt;obtain ⟨⟨e0,e1,e2,e3,e4⟩,z0,z1,z2,z3,z4⟩:=Blk.c5 hy;have hgy:=hy.lt;clear hSw hy;go_simp;try with_reducible rfl) hZ0 HT.tr ?_;refine HT.one (i:=6) (by kernel_rfl) rfl (fun K hK=>?_);go_simp;refine (show Calls Tryz.prog 30 #[crV (some ⟨p,o,none⟩) l.length cA sc pb B os.length cB,.int .i64 g.k] wd _ from HNU.out).mono ?_;rintro e w6 ⟨rfl,hb6⟩;(try dsimp only);refine hK.out _ _ hb6 trivial ?_;clear hK K;(try simp only [HT.pS]);refine HT.tm 7 rfl hb6 HT.tr ?_;refine HT.tm 8 rfl hb6 HT.tr ?_;have HSE:=Hi fun (v:World) (hv:Below wd.heap.size wd v)=>secret (cA:=cA) v (A:=some ⟨p,o,none⟩) (l:=l) (HCd.out.below hv).gs (by omega) g HA1.out HB1.out
    refine HT.tm 9 rfl hb6 HT.tr ?_;refine HT.tk 10 rfl (by intro v hSw;have hy:=HYd.out.below hSw HYd.out.lt;obtain ⟨⟨e0,e1,e2,e3,e4⟩,z0,z1,z2,z3,z4⟩:=Blk.c5 hy;have hgy:=hy.lt;clear hSw hy;go_simp;try with_reducible rfl) hb6 HT.tr ?_;refine HT.tm 11 rfl hb6 HT.tr ?_;refine HT.tk 12 rfl (by intro v hSw;have hy:=HXd.out.below hSw HXd.out.lt;obtain ⟨e0,e1,e2,e3,z0,z1,z2,z3⟩:=Blk.c4 hy;have hgy:=hy.lt;clear hSw hy;go_simp;try with_reducible rfl) hb6 HT.tr ?_;refine HT.tk 13 rfl (by intro v hSw;have hy:=HYd.out.below hSw HYd.out.lt;obtain ⟨⟨e0,e1,e2,e3,e4⟩,z0,z1,z2,z3,z4⟩:=Blk.c5 hy;have hgy:=hy.lt;clear hSw hy;go_simp;try with_reducible rfl) hb6 HT.tr ?_;refine HT.one (i:=14) (by kernel_rfl) rfl (fun K hK=>?_);go_simp;refine (show Calls Tryz.prog 31 #[.slice (some ⟨p,o,none⟩) l.length cA,gA g] w6 _ from HSE.out w6 hb6).mono ?_;rintro e w7 ⟨rfl,hb7⟩;have hz7:=hb6.trans (hb7.mono hb6.size);(try dsimp only);refine hK.out _ _ hz7 trivial ?_;clear hK K;(try simp only [HT.pS]);refine HT.tm 15 rfl hz7 HT.tr ?_;refine HT.tm 16 rfl hz7 HT.tr ?_;refine HT.tm 17 rfl hz7 HT.tr ?_;refine HT.done (by kernel_rfl) ?_;have HEND:=Hi (HBd.out.trans (hz7.mono HBd.out.size));clear hZ0 hb6 hb7 hz7;go_wp2_with fail
    go_ret;exact ⟨rfl,HEND.out⟩
   ·rw [decide_eq_false hlt5,Bool.false_and];have hlt6:decide ((g.n.toNat:Int) < nm)=false:=decide_eq_false hlt5;clear hlt5;go_enter Tryz.func18,Tryz.ntmps18;go_upto_region 1 with fail
    rw [HW1.out];go_upto_region 2 with fail
    rw [HW2.out];clear e0 e1 e2 e3 z0 z1 z2 z3 c0 c1 c2 c3 c4 hlt;obtain ⟨⟨e0,e1,e2,e3,e4⟩,z0,z1,z2,z3,z4⟩:=Blk.c5 HY2.out;have hgl2:=HY2.out.lt;go_wp2_with fail
    refine (show Calls Tryz.prog 28 #[.int .i64 g.k] w2 _ from HT.out).mono ?_;rintro e w3 ⟨rfl,rfl⟩;go_wp2_with fail
    refine (show Calls Tryz.prog 29 #[.int .i64 g.a,.int .i64 (i:Int),.bool (decide (0 < t))] w3 _ from HPA.out).mono ?_;rintro e w4 ⟨rfl,rfl⟩;go_wp2_with fail
    refine (show Calls Tryz.prog 29 #[.int .i64 g.b,.int .i64 (i:Int),.bool (decide ((1:Int) < (t:Int)))] w4 _ from HPB.out).mono ?_;rintro e w5 ⟨rfl,rfl⟩;go_wp2_with fail
    have hdr:Below w5.heap.size w5 w5.drew:=Below.drew (Below.refl _ _);obtain ⟨wd,hwd⟩:∃ v,w5.drew=v:=⟨_,rfl⟩;rw [hwd] at hdr;have HXd:=Hi (HX2.out.below hdr HX2.out.lt);have HYd:=Hi (HY2.out.below hdr HY2.out.lt);have HBd:=Hi (HB.out.trans (hdr.mono HB.out.size));have HCd:=Hi (HC2.out.below hdr);have HNU:=Hi (HNU0.out wd);have hZ0:Below wd.heap.size wd wd:=Below.refl _ _;clear hdr e0 e1 e2 e3 e4 z0 z1 z2 z3 z4 hgl hgl2 HX2 HY2 HC2 HT HPA HPB HW1 HW2 HB HNU0;refine HT.wp_region (Z:=fun w'=>Below wd.heap.size wd w') (S:=fun _=>True) (st:=[]) (by kernel_rfl) ?_;rw [hwd];clear hwd;refine HT.tm 0 rfl hZ0 HT.tr ?_;refine HT.tk 1 rfl (by intro v hSw;have hy:=HYd.out.below hSw HYd.out.lt;obtain ⟨⟨e0,e1,e2,e3,e4⟩,z0,z1,z2,z3,z4⟩:=Blk.c5 hy;have hgy:=hy.lt;clear hSw hy;go_simp;try with_reducible rfl) hZ0 HT.tr ?_;refine HT.tm 2 rfl hZ0 HT.tr ?_;refine HT.tk 3 rfl (by intro v hSw;have hy:=HXd.out.below hSw HXd.out.lt;obtain ⟨e0,e1,e2,e3,z0,z1,z2,z3⟩:=Blk.c4 hy;have hgy:=hy.lt;clear hSw hy;go_simp;try with_reducible rfl) hZ0 HT.tr ?_;refine HT.tm 4 rfl hZ0 HT.tr ?_;refine HT.tk 5 rfl (by intro v hSw;have hy:=HYd.out.below hSw HYd.out.lt;obtain ⟨⟨e0,e1,e2,e3,e4⟩,z0,z1,z2,z3,z4⟩:=Blk.c5 hy;have hgy:=hy.lt;clear hSw hy;go_simp;try with_reducible rfl) hZ0 HT.tr ?_;refine HT.one (i:=6) (by kernel_rfl) rfl (fun K hK=>?_);go_simp;refine (show Calls Tryz.prog 30 #[crV (some ⟨p,o,none⟩) l.length cA sc pb B os.length cB,.int .i64 g.k] wd _ from HNU.out).mono ?_;rintro e w6 ⟨rfl,hb6⟩;(try dsimp only);refine hK.out _ _ hb6 trivial ?_;clear hK K;(try simp only [HT.pS]);refine HT.tm 7 rfl hb6 HT.tr ?_;refine HT.tm 8 rfl hb6 HT.tr ?_;refine HT.sk 9 rfl hb6 HT.tr ?_;refine HT.sk 10 rfl hb6 HT.tr ?_;refine HT.sk 11 rfl hb6 HT.tr ?_;refine HT.sk 12 rfl hb6 HT.tr ?_;refine HT.sk 13 rfl hb6 HT.tr ?_;refine HT.sk 14 rfl hb6 HT.tr ?_;refine HT.sk 15 rfl hb6 HT.tr ?_;refine HT.tm 16 rfl hb6 HT.tr ?_;refine HT.tm 17 rfl hb6 HT.tr ?_;refine HT.done (by kernel_rfl) ?_;have HEND:=Hi (HBd.out.trans (hb6.mono HBd.out.size));clear hZ0 hb6;go_wp2_with fail
    go_ret;exact ⟨rfl,HEND.out⟩
abbrev oV(o:TI):Value:=.agg #[.string o.s,.int .i64 o.n]
abbrev oB(o:TI):Array Value:=#[.string o.s,.int .i64 o.n]
theorem o_box(w:World)(cs:Array Value):∃ w1,w.alloc (.cells cs 43)=w1∧Below w.heap.size w w1∧Blk w1 w.heap.size 43 cs∧w1.heap.size=w.heap.size+1:=
 ⟨_,rfl,(Below.refl _ _).alloc (Nat.le_refl _) _,Blk.new _ _ _,by simp⟩
theorem Blk.c2{w:World}{g:Nat}{t:TypeId}{a b:Value}(h:Blk w g t #[a,b]):w.cell? ⟨g,0,none⟩=some a∧w.cell? ⟨g,1,none⟩=some b∧w.frozen? ⟨g,0,none⟩=false∧w.frozen? ⟨g,1,none⟩=false:=⟨h.cell 0,h.cell 1,h.frozen 0,h.frozen 1⟩
def ouB(n:Nat)(o:TI):Bool:=decide (0≤o.n∧o.n < (n:Int))
def BoP(w:World)(r:Bool)(e:Ending)(w':World):Prop:=e = .returned (.bool r)∧Below w.heap.size w w'
theorem can1(w:World){g:Nat}{A:Option Addr}{n cA:Nat}{sc pb:Int}{B:Option Addr}{m cB:Nat}(hX:Blk w g 25 (crB A n cA sc pb B m cB))(x:TI) :
  Calls Tryz.prog 20 #[oV x,.pointer (some ⟨g,0,none⟩)] w (BoP w (!ouB n x)):=by
 obtain ⟨w1,hw1,hb1,hY1,hs1⟩:=o_box w (oB x);have hX1:=hX.below hb1 hX.lt;have HA:=Hi (isAhead w1 x.n (n:Int));obtain ⟨e0,e1,e2,e3,z0,z1,z2,z3⟩:=Blk.c4 hX1;obtain ⟨y0,y1,f0,f1⟩:=Blk.c2 hY1;have hgl:=hX1.lt;have hyl:=hY1.lt;have HB:=Hi hb1;have HW:=Hi hw1;unfold ouB;generalize decide (0≤x.n∧x.n < (n:Int))=r at HA ⊢;unfold BoP;clear hw1 hb1 hY1 hs1 hX hX1;go_enter Tryz.func20,Tryz.ntmps20;go_upto_region 1 with fail
 rw [HW.out];go_wp2_with fail
 refine (show Calls Tryz.prog 21 #[.int .i64 x.n,.int .i64 (n:Int)] w1 _ from HA.out).mono ?_;rintro e w' ⟨rfl,rfl⟩;go_wp2_with fail
 go_ret;exact ⟨rfl,HB.out⟩
theorem oindex(w:World){g:Nat}{A:Option Addr}{n cA:Nat}{sc pb:Int}{B:Option Addr}{cB:Nat}{os:List TI}(hX:Blk w g 25 (crB A n cA sc pb B os.length cB))(hL:Lies w B (os.flatMap TI.cells))(hl:os.length≤9223372036854775807) :
  Calls Tryz.prog 32 #[.slice B os.length cB,.func (.func 20) #[] #[.pointer (some ⟨g,0,none⟩)]] w fun e w'=>∃ r:Int,e = .returned (.int .i64 r)∧os.any (fun o=>!ouB n o)=decide (0≤r)∧Below w.heap.size w w':=by
 have HX:=Hi hX;have HL:=Hi hL;have hen:=enters_of Tryz.func20 (by kernel_rfl) rfl;clear hX hL;go_enter Tryz.func32,Tryz.ntmps32;go_wp2_with fail
 go_loopw [8] (fun vi wr=>∃ i:Nat,i≤os.length∧vi = .int .i64 (i:Int)∧Hid (Below w.heap.size w wr)∧Hid (∀ j y,j < i→os[j]?=some y→(!ouB n y)=false)) (fun vi _=>os.length - (intOf vi).toNat)
 case atStart=>exact ⟨0,by omega,rfl,Hi (Below.refl _ _),Hi fun j y hj=>absurd hj (by omega)⟩
 case round=>
  obtain ⟨i,hi,rfl,HR,HQ⟩:=hrel;by_cases hlt:i < os.length
  ·have hil:(i:Int) < (os.length:Int):=by omega
   obtain ⟨y,hy⟩:∃ y,os[i]?=some y:=⟨_,List.getElem?_eq_getElem hlt⟩;obtain ⟨f0,f1⟩:=flat2 os i y hy;obtain ⟨b,p,rfl,hbl,hc⟩:=(HL.out.below HR.out).at_ f0;have c0:=hc _ _ f0;have c1:=hc _ _ f1;rw [←Nat.add_assoc] at c1;have HCL:=Hi (can1 wr (HX.out.below HR.out HX.out.lt) y);have HY:=Hi hy;obtain ⟨r,hr⟩:∃ r,(!ouB n y)=r:=⟨_,rfl⟩;have HPR:=Hi hr;rw [hr] at HCL;clear hy hr f0 f1 hc;go_wp2_with fail
   refine (show Calls Tryz.prog 20 #[oV y,.pointer (some ⟨g,0,none⟩)] wr _ from HCL.out).mono ?_;rintro e w4 ⟨rfl,hb4⟩;have HB4:=Hi (HR.out.trans (hb4.mono HR.out.size));clear hb4 c0 c1;cases r with
   | true=>
    have HANY:=Hi (show os.any (fun o=>!ouB n o)=true from List.any_eq_true.2 ⟨y,List.mem_of_getElem? HY.out,HPR.out⟩);go_wp2_with fail
    go_ret;exact ⟨_,rfl,by rw [HANY.out];simp,HB4.out⟩
   | false=>
    have HN:=Hi (show ∀ j z,j < i+1→os[j]?=some z→(!ouB n z)=false from fun j z hj hz=>by
     by_cases h:j < i
     ·exact HQ.out j z h hz
     ·obtain rfl:j=i:=by omega
      rw [HY.out] at hz;obtain rfl:=Option.some.inj hz;exact HPR.out)
    go_wp2_with fail
    go_roundw
    case rel=>exact ⟨i+1,by omega,by go_num,HB4,HN⟩
    case measure=>simp [intOf];omega
  ·have HANY:=Hi (show os.any (fun o=>!ouB n o)=false from by
    rw [List.any_eq_false];intro y hy;obtain ⟨j,hj⟩:=List.getElem?_of_mem hy;have hjl:=(List.getElem?_eq_some_iff.1 hj).1;rw [HQ.out j y (by omega) hj];decide)
   go_wp2_with fail
   go_ret;exact ⟨_,rfl,by rw [HANY.out];simp,HR.out⟩
theorem ocontains(w:World){g:Nat}{A:Option Addr}{n cA:Nat}{sc pb:Int}{B:Option Addr}{cB:Nat}{os:List TI}(hX:Blk w g 25 (crB A n cA sc pb B os.length cB))(hL:Lies w B (os.flatMap TI.cells))(hl:os.length≤9223372036854775807) :
  Calls Tryz.prog 19 #[.slice B os.length cB,.func (.func 20) #[] #[.pointer (some ⟨g,0,none⟩)]] w (BoP w (os.any fun o=>!ouB n o)):=by
 have HI:=Hi (oindex w hX hL hl);clear hX hL;go_enter Tryz.func19,Tryz.ntmps19;go_wp2_with fail
 refine (show Calls Tryz.prog 32 #[.slice B os.length cB,.func (.func 20) #[] #[.pointer (some ⟨g,0,none⟩)]] w _ from HI.out).mono ?_;rintro e w' ⟨r,rfl,hr,hb⟩;have HB:=Hi hb;have HR:=Hi hr;clear hb hr;go_wp2_with fail
 go_ret;exact ⟨(congrArg (fun b=>Ending.returned (Value.bool b)) HR.out).symm,HB.out⟩
theorem ou_all(n:Nat)(os:List TI):(os.all fun o=>decide (0≤o.n∧o.n < (n:Int))) = !(os.any fun o=>!ouB n o):=by
 induction os with
 | nil=>rfl
 | cons x l ih=>simp only [List.all_cons,List.any_cons,ih,ouB,Bool.not_or,Bool.not_not]
theorem can(w:World){A:Option Addr}{cA:Nat}{B:Option Addr}{cB:Nat}{l:List Gt}{os:List TI}(hC:Cir w A cA B cB l os)(sc pb:Int) :
  Calls Tryz.prog 6 #[crV A l.length cA sc pb B os.length cB] w (BoP w (caB sc pb l os)):=by
 obtain ⟨w1,hw1,hb1,hX1,hs1⟩:=c_box w (crB A l.length cA sc pb B os.length cB);have hC1:=hC.below hb1;obtain ⟨e0,e1,e2,e3,z0,z1,z2,z3⟩:=Blk.c4 hX1;have hgl:=hX1.lt;have hr:=hC.rA;have hr2:=hC.rB;have HB:=Hi hb1;have HW:=Hi hw1;have HX:=Hi hX1;have HC1:=Hi hC1;have HS:=Hi (isCount w1 sc);have HP:=Hi (isCount w1 pb);have HFI:=Hi fun (h1:cnt sc=true) (h2:cnt pb=true) (hl:l.length≤8000) (v:World) (hv:Below w1.heap.size w1 v) (i:Nat) (hi:i < l.length)=>fits v (hC1.below hv) sc pb h1 h2 hl i hi
 have HOC:=Hi fun (v:World) (hv:Below w1.heap.size w1 v)=>ocontains v (hX1.below hv hX1.lt) (hC1.below hv).ou (by omega)
 have hca:caB sc pb l os=(cnt sc && cnt pb && decide (l.length≤8000) && (List.range l.length).all (fiL sc pb l) && !(os.any fun o=>!ouB l.length o)):=by rw [←ou_all];rfl
 have HNO:=Hi fun (i:Nat) (hi:i < l.length) (h:fiL sc pb l i=false)=>no_fi (os:=os) hi h
 have HYES:=Hi fun (h:∀ i,i < l.length→fiL sc pb l i=true)=>all_fi (sc:=sc) (pb:=pb) (l:=l) h
 unfold BoP;clear hw1 hb1 hX1 hs1 hC hC1;have step:∀ {r:Bool},caB sc pb l os=r→caB sc pb l os=r:=fun h=>h
 by_cases hs:cnt sc=true;rotate_left
 ·have hs':cnt sc=false:=by simpa using hs
  have hz:caB sc pb l os=false:=by rw [hca,hs'];rfl
  rw [hz];rw [hs'] at HS;clear HFI HOC hca HNO HYES step HP hz hs hs';go_enter Tryz.func6,Tryz.ntmps6;go_upto_region 1 with fail
  rw [HW.out];go_wp2_with fail
  refine (show Calls Tryz.prog 17 #[.int .i64 sc] w1 _ from HS.out).mono ?_;rintro e w' ⟨rfl,rfl⟩;go_wp2_with fail
  go_ret;exact ⟨rfl,HB.out⟩
 by_cases hp:cnt pb=true;rotate_left
 ·have hp':cnt pb=false:=by simpa using hp
  have hz:caB sc pb l os=false:=by rw [hca,hs,hp'];rfl
  rw [hz];rw [hs] at HS;rw [hp'] at HP;clear HFI HOC hca HNO HYES step hz hs hp hp';go_enter Tryz.func6,Tryz.ntmps6;go_upto_region 1 with fail
  rw [HW.out];go_wp2_with fail
  refine (show Calls Tryz.prog 17 #[.int .i64 sc] w1 _ from HS.out).mono ?_;rintro e w' ⟨rfl,rfl⟩;go_wp2_with fail
  refine (show Calls Tryz.prog 17 #[.int .i64 pb] w' _ from HP.out).mono ?_;rintro e w2 ⟨rfl,rfl⟩;go_wp2_with fail
  go_ret;exact ⟨rfl,HB.out⟩
 by_cases hl:l.length≤8000;rotate_left
 ·have hz:caB sc pb l os=false:=by rw [hca,hs,hp,decide_eq_false hl];rfl
  rw [hz];rw [hs] at HS;rw [hp] at HP;have hll:(8000:Int) < (l.length:Int):=by omega
  clear HFI HOC hca HNO HYES step hz hs hp;go_enter Tryz.func6,Tryz.ntmps6;go_upto_region 1 with fail
  rw [HW.out];go_wp2_with fail
  refine (show Calls Tryz.prog 17 #[.int .i64 sc] w1 _ from HS.out).mono ?_;rintro e w' ⟨rfl,rfl⟩;go_wp2_with fail
  refine (show Calls Tryz.prog 17 #[.int .i64 pb] w' _ from HP.out).mono ?_;rintro e w2 ⟨rfl,rfl⟩;go_wp2_with fail
  go_ret;exact ⟨rfl,HB.out⟩
 have HFI:=Hi (HFI.out hs hp hl);have HCA:=Hi (show (List.range l.length).all (fiL sc pb l)=true→caB sc pb l os = !(os.any fun o=>!ouB l.length o) from fun h=>by rw [hca,hs,hp,decide_eq_true hl,h];rfl);have hll:¬ (8000:Int) < (l.length:Int):=by omega
 rw [hs] at HS;rw [hp] at HP;clear hca step hs hp;go_enter Tryz.func6,Tryz.ntmps6;go_upto_region 1 with fail
 rw [HW.out];go_wp2_with fail
 refine (show Calls Tryz.prog 17 #[.int .i64 sc] w1 _ from HS.out).mono ?_;rintro e w' ⟨rfl,rfl⟩;go_wp2_with fail
 refine (show Calls Tryz.prog 17 #[.int .i64 pb] w' _ from HP.out).mono ?_;rintro e w2 ⟨rfl,rfl⟩;go_wp2_with fail
 clear e0 e1 e2 e3 z0 z1 z2 z3 hgl
 go_loopw [23] (fun vi wr=>∃ i:Nat,i≤l.length∧vi = .int .i64 (i:Int)∧Hid (Below w2.heap.size w2 wr)∧Hid (∀ j,j < i→fiL sc pb l j=true)) (fun vi _=>l.length - (intOf vi).toNat)
 case atStart=>exact ⟨0,by omega,rfl,Hi (Below.refl _ _),Hi fun j hj=>absurd hj (by omega)⟩
 case round=>
  obtain ⟨i,hi,rfl,HR,HQ⟩:=hrel;have hX:=HX.out.below HR.out HX.out.lt;obtain ⟨e0,e1,e2,e3,z0,z1,z2,z3⟩:=Blk.c4 hX;have hgl:=hX.lt;by_cases hlt:i < l.length
  ·have hil:(i:Int) < (l.length:Int):=by omega
   have HF:=Hi (HFI.out wr HR.out i hlt);obtain ⟨r,hr⟩:∃ r,fiL sc pb l i=r:=⟨_,rfl⟩;have HRR:=Hi hr;rw [hr] at HF;clear hX hr;go_wp2_with fail
   refine (show Calls Tryz.prog 18 #[crV A l.length cA sc pb B os.length cB,.int .i64 (i:Int)] wr _ from HF.out).mono ?_;rintro e w4 ⟨rfl,hb4⟩;have HB4:=Hi (HR.out.trans (hb4.mono HR.out.size));clear hb4 e0 e1 e2 e3 z0 z1 z2 z3 hgl;cases r with
   | false=>
    have HZ:=Hi (HNO.out i hlt HRR.out);have HEND:=Hi (HB.out.trans (HB4.out.mono HB.out.size));go_wp2_with fail
    go_ret;exact ⟨(congrArg (fun b=>Ending.returned (Value.bool b)) HZ.out).symm,HEND.out⟩
   | true=>
    have HN:=Hi (show ∀ j,j < i+1→fiL sc pb l j=true from fun j hj=>by
     by_cases h:j < i
     ·exact HQ.out j h
     ·obtain rfl:j=i:=by omega
      exact HRR.out)
    go_wp2_with fail
    go_roundw
    case rel=>exact ⟨i+1,by omega,by go_num,HB4,HN⟩
    case measure=>simp [intOf];omega
  ·obtain rfl:i=l.length:=by omega
   have HZ:=Hi (HCA.out (HYES.out HQ.out));have HO:=Hi (HOC.out wr HR.out);clear hX;generalize (os.any fun o=>!ouB l.length o)=r at HZ HO;go_wp2_with fail
   refine (show Calls Tryz.prog 19 #[.slice B os.length cB,.func (.func 20) #[] #[.pointer (some ⟨w.heap.size,0,none⟩)]] wr _ from HO.out).mono ?_;rintro e w4 ⟨rfl,hb4⟩;have hh:=HB.out.trans (HR.out.mono HB.out.size);have HEND:=Hi (hh.trans (hb4.mono hh.size));clear hh hb4 e0 e1 e2 e3 z0 z1 z2 z3 hgl;go_wp2_with fail
   go_ret;exact ⟨(congrArg (fun b=>Ending.returned (Value.bool b)) HZ.out).symm,HEND.out⟩
theorem infoU:(Tryz.prog.info? 35).map (fun i=>(i.zero,i.size,i.bytes))=some (some (.int .u32 0),1,4):=by kernel_rfl
def rowL(n:Nat)(acc:List (BitVec 32)):List (BitVec 32):=acc ++ List.replicate (n - acc.length) 0
def rowV(n:Nat)(acc:List (BitVec 32)):Array Value:=((rowL n acc).map u).toArray
theorem make32(n:Nat)(hn:n≤16000)(W:World):(Instr.makeSlice 29 (.int .i64 (n:Int)) (.int .i64 (n:Int))).run Tryz.prog W = .ok (.slice (some ⟨W.heap.size,0,none⟩) n n) (W.alloc (.cells (rowV n []) 35)):=by
 obtain ⟨i0,hi,hz0,hz1,hz2⟩:=info_parts infoU;have h:=run_make (P:=Tryz.prog) W 29 35 i0 (.int .u32 0) Tryz.underlying29 hi hz0 .i64 .i64 n n (by omega) (Int.le_refl _) (by rw [hz2];omega) (by omega);have e:madeCells (Value.int .u32 0).cells ((n:Int).toNat * i0.size)=rowV n []:=by
  rw [hz1];apply Array.toList_inj.1;have:=toList_madeCells_one (Value.int .u32 0) n;have e2:(rowV n []).toList=List.replicate n (Value.int .u32 0):=by simp [rowV,rowL]
  rw [e2];simpa [Value.cells] using this
 rw [e] at h;simpa using h
theorem rowL_at{n:Nat}{acc:List (BitVec 32)}{j:Nat}(hj:j < n)(h:acc.length≤n):(rowL n acc)[j]?=some (acc.getD j 0):=by
 unfold rowL;rw [List.getD_eq_getElem?_getD];by_cases hl:j < acc.length
 ·rw [List.getElem?_append_left hl,List.getElem?_eq_getElem hl];rfl
 ·rw [List.getElem?_append_right (by omega),List.getElem?_replicate,if_pos (by omega),List.getElem?_eq_none (by omega)];rfl
theorem rowV_at{n:Nat}{acc:List (BitVec 32)}{j:Nat}(hj:j < n)(h:acc.length≤n):(rowV n acc)[j]?=some (u (acc.getD j 0)):=by
 unfold rowV;rw [List.getElem?_toArray,List.getElem?_map,rowL_at hj h];rfl
theorem rowV_set{n:Nat}{acc:List (BitVec 32)}(h:acc.length < n)(x:BitVec 32):(rowV n acc).setIfInBounds acc.length (u x)=rowV n (acc ++ [x]):=by
 unfold rowV rowL;rw [List.setIfInBounds_toArray]
 congr 1
 obtain ⟨m,hm⟩:∃ m,n - acc.length=m+1:=⟨n - acc.length - 1,by omega⟩;rw [hm,show n - (acc ++ [x]).length=m by simp;omega,List.replicate_succ];rw [List.map_append,List.set_append_right (h:=by simp)];simp
theorem rowV_lies{n:Nat}{acc:List (BitVec 32)}{w:World}{g:Nat}{t:TypeId}(h:acc.length=n)(hB:Blk w g t (rowV n acc)):Lies w (some ⟨g,0,none⟩) (acc.map u):=fun j v hj=>by
 refine ⟨_,rfl,?_⟩;rw [Args.add_plain,Nat.zero_add,hB.cell];unfold rowV rowL;rw [show n - acc.length = 0 by omega,List.replicate_zero,List.append_nil];simpa using hj
end Go.Proofs.YtdhoemlomojfaaaGreatDoor.Ci
