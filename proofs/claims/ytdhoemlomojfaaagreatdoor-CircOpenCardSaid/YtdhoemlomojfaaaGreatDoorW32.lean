/- DERIVED. PaPs, PaSg, PaSe. By an AI agent. -/
import Derived.Test.YtdhoemlomojfaaaGreatDoorW01
import Derived.Test.YtdhoemlomojfaaaGreatDoorW03
import Derived.Test.YtdhoemlomojfaaaGreatDoorW31
set_option maxRecDepth 100000
set_option maxHeartbeats 8000000
set_option linter.unusedVariables false
set_option linter.unusedSimpArgs false
namespace Go.Proofs.YtdhoemlomojfaaaGreatDoor.Pa
open Go Go.ChangeShapes Go.WideShapes Go.ChangeAt Go.RowKit Lx Args
section
attribute [local go_sem] fTk0 fTk1 fTk2
theorem prim_name(w:World)(bp d:Nat)(t u:Tk)(q:List Tk)(hd:d≤60)(hp:PS w bp (t :: u :: q) d)(hg:Gt (t :: u :: q))(hk:t.k = 1)(hu:(u.s==[40])=false) :
  Calls Tryz.prog 173 #[.pointer (some ⟨bp,0,none⟩)] w (OutP w bp d (t :: u :: q) (Rd numV (.lev 5) d (t :: u :: q))):=by
 have hon:isS [40] u=false:=by rw [isS_eq (hg.tail (by omega)).hd (by decide)];exact hu
 have hlt:=hp.lt;have hgr:=hg.tail (show t.k≠0 by omega);obtain ⟨w0,hw0⟩:∃ w0,w.alloc (.cells #[.int .i64 0,.string ⟨#[]⟩,.int .u32 0,.int .i64 0,.slice none 0 0,.slice none 0 0] 62)=w0:=⟨_,rfl⟩;have hb0:Below w.heap.size w w0:=by rw [←hw0];exact (Below.refl _ _).alloc (Nat.le_refl _) _
 have hB:Blk w0 w.heap.size 62 #[.int .i64 0,.string ⟨#[]⟩,.int .u32 0,.int .i64 0,.slice none 0 0,.slice none 0 0]:=by rw [←hw0];exact Blk.new _ _ _
 have hq1:((t.k:Int)==2)=false:=by rw [hk];rfl
 have hq2:((t.k:Int)==1)=true:=by rw [hk];rfl
 have HN:=Hi (next w0 bp d t (u :: q) (hp.below hb0));have HTK:=Hi fun (w':World) (hb:Below w0.heap.size w0 w')=>take w' bp d t (u :: q) ((hp.below hb0).below hb) (by simp)
 have HB0:=Hi hb0;have HB:=Hi hB;have HW:=Hi hw0;have HGR:=Hi hgr;have HKQ:=Hi hk;have hlb:=hB.lt;clear hb0 hp hw0 hB hgr hg hk;go_enter Tryz.func173,Tryz.ntmps173;go_wp2_with fail
 rw [HW.out];refine HN.out.mono ?_;rintro e w1 ⟨rfl,hb1⟩;obtain ⟨w2,hw2⟩:∃ w2,w1.alloc (.cells #[.int .i64 (t.k:Int),.string ⟨t.s.toArray⟩,.int .i64 (t.at_:Int)] 134)=w2:=⟨_,rfl⟩;have hb2:Below w0.heap.size w0 w2:=by rw [←hw2];exact hb1.alloc hb1.size _
 have hbt:Blk w2 w1.heap.size 134 #[.int .i64 (t.k:Int),.string ⟨t.s.toArray⟩,.int .i64 (t.at_:Int)]:=by rw [←hw2];exact Blk.new _ _ _
 have HT2:=Hi (HTK.out w2 hb2);have h01:w0.heap.size≤w1.heap.size:=hb1.size;have HW2:=Hi hw2;have HU2:=Hi ((below_UB (bp:=bp) HB0.out).trans (below_UB hb2));have HBT:=Hi hbt;have HX2:=Hi (HB.out.below hb2 HB.out.lt);clear hb1 hb2 hw2 HN hbt HTK;go_wp2_with fail
 rw [HW2.out];refine HT2.out.mono ?_;rintro e w3 ⟨rfl,hp3,hu3⟩;have HI3:=Hi (is_ w3 bp d u q [40] hp3);have HP3:=Hi hp3;have HU3:=Hi (HU2.out.trans hu3);have HBT3:=Hi (HBT.out.upd hu3 (by omega));have HX3:=Hi (HX2.out.upd hu3 (by omega));have h13:=(HBT.out.upd hu3 (show ¬ w1.heap.size=bp by omega)).lt;clear hp3 hu3;rw [hu] at HI3;go_wp2_with fail
 refine HI3.out.mono ?_;rintro e w4 ⟨rfl,hb4⟩;have h34:w3.heap.size≤w4.heap.size:=hb4.size;have HP4:=Hi (HP3.out.below hb4);have HU4:=Hi (HU3.out.trans (below_UB hb4));have HBT4:=Hi (HBT3.out.below hb4 h13);have HX4:=Hi (HX3.out.below hb4 (by omega));clear hb4;have hZ:=HBT4.out;obtain ⟨f0,f1,f2,x0,x1,x2⟩:=Blk.c3 hZ;have HNO:=Hi (show Calls Tryz.prog 72 #[.int .i64 1,.string ⟨t.s.toArray⟩,.int .i64 (t.at_:Int),.slice none 0 0] w4 _ from node w4 1 t.at_ t.s none 0 0);clear hZ;go_wp2_with fail
 refine HNO.out.mono ?_;rintro e w5 ⟨rfl,hb5⟩;have hX:=HX4.out.below hb5 HX4.out.lt;obtain ⟨⟨e0,e1,e2,e3,e4,e5⟩,z0,z1,z2,z3,z4,z5⟩:=Blk.c6 hX;have HX:=Hi hX;have HB5:=Hi hb5;clear hX hb5;go_wp2_with fail
 refine bodyPost_ret (resNd rfl rfl (Blk.put6 HX.out _ _ _ _ _ _) rfl) rfl ?_;exact out_ok (lo:=w.heap.size+1) hlt (by omega) (tIn_leaf _ 1 t.at_ 0 t.s) (r_name hd HKQ.out hon) (HP4.out.below HB5.out) HGR.out (by simp) (HU4.out.trans (below_UB HB5.out))
theorem prim_call{n:Nat}(H:ExC n)(w:World)(bp d:Nat)(t u:Tk)(q:List Tk)(hn:q.length≤n)(hd:d≤60)(hp:PS w bp (t :: u :: q) d)(hg:Gt (t :: u :: q))(hk:t.k = 1)(hu:(u.s==[40])=true) :
  Calls Tryz.prog 173 #[.pointer (some ⟨bp,0,none⟩)] w (OutP w bp d (t :: u :: q) (Rd numV (.lev 5) d (t :: u :: q))):=by
 have hon:isS [40] u=true:=by rw [isS_eq (hg.tail (by omega)).hd (by decide)];exact hu
 have hlt:=hp.lt;have hgr:=hg.tail (show t.k≠0 by omega);obtain ⟨w0,hw0⟩:∃ w0,w.alloc (.cells #[.int .i64 0,.string ⟨#[]⟩,.int .u32 0,.int .i64 0,.slice none 0 0,.slice none 0 0] 62)=w0:=⟨_,rfl⟩;have hb0:Below w.heap.size w w0:=by rw [←hw0];exact (Below.refl _ _).alloc (Nat.le_refl _) _
 have hB:Blk w0 w.heap.size 62 #[.int .i64 0,.string ⟨#[]⟩,.int .u32 0,.int .i64 0,.slice none 0 0,.slice none 0 0]:=by rw [←hw0];exact Blk.new _ _ _
 have hq1:((t.k:Int)==2)=false:=by rw [hk];rfl
 have hq2:((t.k:Int)==1)=true:=by rw [hk];rfl
 have HN:=Hi (next w0 bp d t (u :: q) (hp.below hb0));have HTK:=Hi fun (w':World) (hb:Below w0.heap.size w0 w')=>take w' bp d t (u :: q) ((hp.below hb0).below hb) (by simp)
 have HB0:=Hi hb0;have HB:=Hi hB;have HW:=Hi hw0;have HGR:=Hi hgr;have HKQ:=Hi hk;have hlb:=hB.lt;clear hb0 hp hw0 hB hgr hg hk;go_enter Tryz.func173,Tryz.ntmps173;go_wp2_with fail
 rw [HW.out];refine HN.out.mono ?_;rintro e w1 ⟨rfl,hb1⟩;obtain ⟨w2,hw2⟩:∃ w2,w1.alloc (.cells #[.int .i64 (t.k:Int),.string ⟨t.s.toArray⟩,.int .i64 (t.at_:Int)] 134)=w2:=⟨_,rfl⟩;have hb2:Below w0.heap.size w0 w2:=by rw [←hw2];exact hb1.alloc hb1.size _
 have hbt:Blk w2 w1.heap.size 134 #[.int .i64 (t.k:Int),.string ⟨t.s.toArray⟩,.int .i64 (t.at_:Int)]:=by rw [←hw2];exact Blk.new _ _ _
 have HT2:=Hi (HTK.out w2 hb2);have h01:w0.heap.size≤w1.heap.size:=hb1.size;have HW2:=Hi hw2;have HU2:=Hi ((below_UB (bp:=bp) HB0.out).trans (below_UB hb2));have HBT:=Hi hbt;have HX2:=Hi (HB.out.below hb2 HB.out.lt);clear hb1 hb2 hw2 HN hbt HTK;go_wp2_with fail
 rw [HW2.out];refine HT2.out.mono ?_;rintro e w3 ⟨rfl,hp3,hu3⟩;have HI3:=Hi (is_ w3 bp d u q [40] hp3);have HP3:=Hi hp3;have HU3:=Hi (HU2.out.trans hu3);have HBT3:=Hi (HBT.out.upd hu3 (by omega));have HX3:=Hi (HX2.out.upd hu3 (by omega));have h13:=(HBT.out.upd hu3 (show ¬ w1.heap.size=bp by omega)).lt;clear hp3 hu3;rw [hu] at HI3;go_wp2_with fail
 refine HI3.out.mono ?_;rintro e w4 ⟨rfl,hb4⟩;have h34:w3.heap.size≤w4.heap.size:=hb4.size;have HP4:=Hi (HP3.out.below hb4);have HU4:=Hi (HU3.out.trans (below_UB hb4));have HBT4:=Hi (HBT3.out.below hb4 h13);have HX4:=Hi (HX3.out.below hb4 (by omega));clear hb4;have hZ0:K3 w1.heap.size t w4.drew:=K3.of HBT4.out.drew;have HAR:=Hi (arguments H w4.drew bp d u q hn hd ⟨HP4.out.ex⟩ HGR.out hu);have HU4d:=Hi (HU4.out.drew);have HBTd:=Hi HBT4.out.drew;have HXd:=Hi HX4.out.drew;have h0d:w.heap.size < w4.drew.heap.size:=HX4.out.lt;have h1d:w1.heap.size < w4.drew.heap.size:=HBT4.out.lt;clear hu;go_upto_region 9 with fail
 refine HT.wp_region (Z:=fun w'=>K3 w1.heap.size t w') (S:=fun _=>True) (st:=[]) (by kernel_rfl) ?_;refine HT.takeP (i:=0) (v:=?_) rfl (by kernel_rfl) (by kernel_rfl) (by kernel_rfl) (by kernel_rfl) (fun _ _ _ h=>h) (Or.inl ⟨by rfl,?_⟩) hZ0 (fun _=>trivial) ?_;rotate_left
 ·(intro w hSw;obtain ⟨y0,y1,y2⟩:=hSw;go_simp;try with_reducible rfl)
 (try simp only [HT.pS]);refine HT.takeP (i:=1) (v:=?_) rfl (by kernel_rfl) (by kernel_rfl) (by kernel_rfl) (by kernel_rfl) (fun _ _ _ h=>h) (Or.inl ⟨by rfl,?_⟩) hZ0 (fun _=>trivial) ?_;rotate_left
 ·(intro w hSw;obtain ⟨y0,y1,y2⟩:=hSw;go_simp;try with_reducible rfl)
 (try simp only [HT.pS]);refine HT.takeP (i:=2) (v:=?_) rfl (by kernel_rfl) (by kernel_rfl) (by kernel_rfl) (by kernel_rfl) (fun _ _ _ h=>h) (Or.inl ⟨by rfl,?_⟩) hZ0 (fun _=>trivial) ?_;rotate_left
 ·(intro w hSw;obtain ⟨y0,y1,y2⟩:=hSw;go_simp;try with_reducible rfl)
 (try simp only [HT.pS]);refine HT.takeP (i:=3) (v:=?_) rfl (by kernel_rfl) (by kernel_rfl) (by kernel_rfl) (by kernel_rfl) (fun _ _ _ h=>h) (Or.inl ⟨by rfl,?_⟩) hZ0 (fun _=>trivial) ?_;rotate_left
 ·(intro w hSw;obtain ⟨y0,y1,y2⟩:=hSw;go_simp;try with_reducible rfl)
 (try simp only [HT.pS]);refine HT.takeP (i:=4) (v:=?_) rfl (by kernel_rfl) (by kernel_rfl) (by kernel_rfl) (by kernel_rfl) (fun _ _ _ h=>h) (Or.inl ⟨by rfl,?_⟩) hZ0 (fun _=>trivial) ?_;rotate_left
 ·(intro w hSw;obtain ⟨y0,y1,y2⟩:=hSw;go_simp;try with_reducible rfl)
 (try simp only [HT.pS]);refine HT.one (i:=5) (by kernel_rfl) rfl (fun K hK=>?_);go_simp;refine HAR.out.mono ?_;rintro e w5 (⟨g,c,xs,r',rfl,hA,hxl,hR,hP,hG,hr,hU⟩ | ⟨a,er,rfl,hR,hU⟩);rotate_left
 ·exact ⟨rfl,.inr ⟨a,er,rfl,r_call hd HKQ.out hon (hR _ _),HU4d.out.trans hU⟩⟩
 have hB5:=HBTd.out.upd hU (show ¬ w1.heap.size=bp by omega);have HBT5:=Hi hB5;have HX5:=Hi (HXd.out.upd hU (by omega));have HA5:=Hi hA;have HR5:=Hi (hR t.at_ t.s);have HP5:=Hi hP;have HG5:=Hi hG;have HU5:=Hi (HU4d.out.trans hU);have hr1:r'.length < (t :: u :: q).length:=by simp at hr ⊢;omega
 clear hA hR hP hG hU hZ0 hr hB5;dsimp only;refine hK.out _ _ (K3.of HBT5.out) trivial ?_;clear hK K;(try simp only [HT.pS]);have HN5:=Hi (show Calls Tryz.prog 72 #[.int .i64 5,.string ⟨t.s.toArray⟩,.int .i64 (t.at_:Int),.slice (some ⟨g,0,none⟩) xs.length c] w5 _ from node w5 5 t.at_ t.s (some ⟨g,0,none⟩) xs.length c);refine HT.one (i:=6) (by kernel_rfl) rfl (fun K hK=>?_);go_simp;refine HN5.out.mono ?_;rintro e w6 ⟨rfl,hb6⟩;have HB6:=Hi hb6;have HX6:=Hi (HX5.out.below hb6 HX5.out.lt);have HK6:=Hi (HBT5.out.below hb6 HBT5.out.lt);clear hb6;dsimp only;refine hK.out _ _ (K3.of HK6.out) trivial ?_;clear hK K;(try simp only [HT.pS]);obtain ⟨⟨e0,e1,e2,e3,e4,e5⟩,z0,z1,z2,z3,z4,z5⟩:=Blk.c6 HX6.out;have hne26:w1.heap.size≠w.heap.size:=by omega
 have HEND:=Hi (out_ok (R:=Rd numV (.lev 5) d (t :: u :: q)) (l:=t :: u :: q) hlt h0d (TIn.far (HA5.out.node (by omega) 5 t.at_ 0 t.s) (Upd.of_below HB6.out fun _=>False) (fun _ h=>h.elim)) (r_call hd HKQ.out hon HR5.out) (HP5.out.below HB6.out) HG5.out hr1 (HU5.out.trans (below_UB HB6.out)));refine HT.one (i:=7) (by kernel_rfl) rfl (fun K hK=>?_);go_simp;refine hK.out _ _ (K3.of (put6_far HK6.out hne26 _ _ _ _ _ _)) trivial ?_;clear hK K;refine HT.done (by kernel_rfl) ?_;dsimp only [Exit.then];(try simp only [HT.pS]);go_wp2_with fail
 exact bodyPost_ret (resNd rfl rfl (Blk.put6 HX6.out _ _ _ _ _ _) rfl) rfl HEND.out
theorem primary{n:Nat}(H:ExC n)(w:World)(bp d:Nat)(t:Tk)(r:List Tk)(hn:r.length≤n)(hd:d≤60)(hp:PS w bp (t :: r) d)(hg:Gt (t :: r))(h1:(isS [126] t || isS [45] t)=false) :
  Calls Tryz.prog 173 #[.pointer (some ⟨bp,0,none⟩)] w (OutP w bp d (t :: r) (Rd numV (.lev 5) d (t :: r))):=by
 by_cases h2:t.k = 2
 ·exact prim_num w bp d t r hd hp hg h2
 by_cases h3:t.k = 1
 ·obtain ⟨u,q,rfl⟩:=et_ne hg.et (by omega);simp only [List.length_cons] at hn;cases hu:(u.s==[40])
  ·exact prim_name w bp d t u q hd hp hg h3 hu
  ·exact prim_call H w bp d t u q (by omega) hd hp hg h3 hu
 ·cases hc:(t.s==[40])
  ·exact prim_no w bp d t r hd hp hg h1 h2 h3 hc
  ·exact prim_par H w bp d t r hn hd hp hg hc
theorem unary_no{n:Nat}(H:ExC n)(w:World)(bp d:Nat)(t:Tk)(r:List Tk)(hn:r.length≤n)(hd:d≤60)(hp:PS w bp (t :: r) d)(hg:Gt (t :: r))(h1:(isS [126] t || isS [45] t)=false) :
  Calls Tryz.prog 159 #[.pointer (some ⟨bp,0,none⟩)] w (OutP w bp d (t :: r) (Rd numV (.lev 5) d (t :: r))):=by
 have hlt:=hp.lt;obtain ⟨w0,hw0⟩:∃ w0,w.alloc (.cells #[.int .i64 0,.string ⟨#[]⟩,.int .u32 0,.int .i64 0,.slice none 0 0,.slice none 0 0] 62)=w0:=⟨_,rfl⟩;have hb0:Below w.heap.size w w0:=by rw [←hw0];exact (Below.refl _ _).alloc (Nat.le_refl _) _
 have hB:Blk w0 w.heap.size 62 #[.int .i64 0,.string ⟨#[]⟩,.int .u32 0,.int .i64 0,.slice none 0 0,.slice none 0 0]:=by rw [←hw0];exact Blk.new _ _ _
 have hq1:(t.s==[126])=false∧(t.s==[45])=false:=by
  rw [isS_eq hg.hd (by decide),isS_eq hg.hd (by decide)] at h1;simpa using h1
 have hi1:=is_ w0 bp d t r [126] (hp.below hb0);rw [hq1.1] at hi1;have HI1:=Hi hi1;have HI2:=Hi fun (w':World) (hb:Below w0.heap.size w0 w')=>is_ w' bp d t r [45] ((hp.below hb0).below hb)
 have HPR:=Hi fun (w':World) (hb:Below w0.heap.size w0 w')=>primary H w' bp d t r hn hd ((hp.below hb0).below hb) hg h1
 have HB0:=Hi hb0;have HB:=Hi hB;have HW:=Hi hw0;have HQ:=Hi hq1.2;clear hb0 hp hw0 hB hg h1 hi1 hq1;go_enter Tryz.func159,Tryz.ntmps159;go_wp2_with fail
 rw [HW.out];refine HI1.out.mono ?_;rintro e w1 ⟨rfl,hb1⟩;have hi2:=HI2.out w1 hb1;rw [HQ.out] at hi2;have HI3:=Hi hi2;have HB1:=Hi hb1;clear hb1 hi2 HI1 HI2;go_wp2_with fail
 refine HI3.out.mono ?_;rintro e w2 ⟨rfl,hb2⟩;have HB2:=Hi (HB1.out.trans (hb2.mono HB1.out.size));clear hb2 HI3;have HP2:=Hi (HPR.out w2 HB2.out);clear HPR;go_wp2_with fail
 refine HP2.out.mono ?_;rintro e w3 (⟨k,a,s,m,A,la,cA,B,lb,cB,x,r',rfl,hT,hR,hP,hG,hr,hU⟩ | ⟨a,er,rfl,hR,hU⟩)
 ·have h02:=HB2.out.size;have hlb:=HB.out.lt;have hX:=(HB.out.below HB2.out HB.out.lt).upd hU (show ¬ w.heap.size=bp by omega);obtain ⟨⟨e0,e1,e2,e3,e4,e5⟩,z0,z1,z2,z3,z4,z5⟩:=Blk.c6 hX;have HX:=Hi hX;have HT:=Hi hT;have HR:=Hi hR;have HP:=Hi hP;have HG:=Hi hG;have HU:=Hi hU;clear hX hT hR hP hG hU;go_wp2_with fail
  exact bodyPost_ret (resNd rfl rfl (Blk.put6 HX.out _ _ _ _ _ _) rfl) rfl (out_ok hlt (by omega) HT.out HR.out HP.out HG.out hr (((below_UB HB0.out).trans (below_UB HB2.out)).trans HU.out))
 ·have HR:=Hi hR;have HU:=Hi hU;clear hR hU;go_wp2_with fail
  exact ⟨rfl,.inr ⟨a,er,rfl,HR.out,((below_UB HB0.out).trans (below_UB HB2.out)).trans HU.out⟩⟩
theorem unary{n:Nat}(H:ExC n):∀ m,m≤n+1→UnC m
 | 0,_=>fun w bp d l hl hd hp hg=>by
  obtain ⟨t,r,rfl⟩:=hg.cons;simp at hl
 | m+1,hm=>fun w bp d l hl hd hp hg=>by
  obtain ⟨t,r,rfl⟩:=hg.cons;simp only [List.length_cons] at hl;cases ht:(isS [126] t || isS [45] t)
  ·exact unary_no H w bp d t r (by omega) hd hp hg ht
  ·exact unary_go (unary H m (by omega)) w bp d t r (by omega) hd hp hg ht
end
section
attribute [local go_sem] fTk0 fTk1 fTk2
def SgC(n:Nat):Prop:=∀ (w:World) (bp d k:Nat) (l:List Tk),l.length≤n→1≤k→k≤6→d≤60→PS w bp l d→Gt l →
 Calls Tryz.prog 135 #[.pointer (some ⟨bp,0,none⟩),.int .i64 (k:Int)] w (OutP w bp d l (Rd numV (.lev (k - 1)) d l))
theorem tIn_at{N:Nat→Prop}{w:World}{x:Tr}{k a s n A la cA B lb cB}(h:TIn N w x (ndC k a s n A la cA B lb cB)):x.place=a:=by
 cases x with
 | mk k1 a1 s1 n1 ps l=>
  unfold TIn at h;obtain ⟨A1,cA1,B1,cB1,h1,h2⟩:=h;unfold ndC at h1;simp only [List.cons.injEq,Value.int.injEq,true_and] at h1;exact (Int.ofNat.inj h1.2.2.2.1).symm
theorem nd_two{N:Nat→Prop}{w1:World}{x y:Tr}{cs ds:List Value}(hT:TIn N w1 x cs)(hU:TIn N w1 y ds)(hN:N w1.heap.size)(e:TypeId)(k a:Nat)(s:Bs) :
  TIn N (w1.alloc (.cells (cs ++ ds).toArray e)) (.mk k a s 0 [] [x,y]) (ndC k a s 0 (some ⟨w1.heap.size,0,none⟩) 2 2 none 0 0):=by
 have hu:Upd (fun _=>False) w1 (w1.alloc (.cells (cs ++ ds).toArray e)):=(Upd.refl _ w1).alloc _;have h2:TsIn N (w1.alloc (.cells (cs ++ ds).toArray e)) [x,y] [cs,ds]:=tsIn_app (tsIn_one (hT.upd hu fun _ _ h=>h)) (tsIn_one (hU.upd hu fun _ _ h=>h));unfold TIn;refine ⟨_,_,none,0,rfl,⟨by simp,by simp,by decide⟩,⟨by simp,by simp,by decide⟩,Lies.nil _ _,fun b o e=>(by cases e),[cs,ds],?_,fun b o e _=>?_,h2⟩
 ·have:=lies_full w1 e (cs ++ ds);simpa using this
 ·cases e;exact hN
structure SgI(w:World)(bp d k:Nat)(l:List Tk)(g:Nat)(W:World)(x:Tr)(kx ax nx:Nat)(sx:Bs)(A:Option Addr)(la cA:Nat)(B:Option Addr)(lb cB:Nat)(r:List Tk):Prop where
 box:Blk W g 62 #[.int .i64 (kx:Int),.string ⟨sx.toArray⟩,.int .u32 (nx:Int),.int .i64 (ax:Int),.slice A la cA,.slice B lb cB]
 tr:TIn (fun b=>w.heap.size+1≤b∧b≠g) W x (ndC kx ax sx nx A la cA B lb cB)
 rd:∀ o,Ch numV (k - 1) d (6 - k) x r o→Rd numV (.lev (k - 1)) d l o
 ps:PS W bp r d
 gt:Gt r
 lt:r.length < l.length
 ub:UB bp w W
 res:Blk W w.heap.size 62 #[.int .i64 0,.string ⟨#[]⟩,.int .u32 0,.int .i64 0,.slice none 0 0,.slice none 0 0]
theorem signed_up{n:Nat}(HS:SgC n)(HU:UnC (n+1)):SgC (n+1):=by
 intro w bp d k l hl hk1 hk6 hd hp hg;have hlt:=hp.lt;obtain ⟨w0,hw0⟩:∃ w0,w.alloc (.cells #[.int .i64 0,.string ⟨#[]⟩,.int .u32 0,.int .i64 0,.slice none 0 0,.slice none 0 0] 62)=w0:=⟨_,rfl⟩;have hb0:Below w.heap.size w w0:=by rw [←hw0];exact (Below.refl _ _).alloc (Nat.le_refl _) _
 have hB:Blk w0 w.heap.size 62 #[.int .i64 0,.string ⟨#[]⟩,.int .u32 0,.int .i64 0,.slice none 0 0,.slice none 0 0]:=by rw [←hw0];exact Blk.new _ _ _
 have HU0:=Hi (HU w0 bp d l hl hd (hp.below hb0) hg);have HB0:=Hi hb0;have HB:=Hi hB;have HW:=Hi hw0;have hlb:=hB.lt;clear hb0 hp hw0 hB hg;go_enter Tryz.func135,Tryz.ntmps135;go_wp2_with fail
 rw [HW.out];refine HU0.out.mono ?_;rintro e w1 (⟨kx,ax,sx,nx,A,la,cA,B,lb,cB,x,r,rfl,hT,hR,hP,hG,hr,hU⟩ | ⟨a,er,rfl,hR,hU⟩);rotate_left
 ·have HR:=Hi (lev_bad (n:=k - 1) (m:=6 - k) (show Rd numV (.lev (k - 1+(6 - k))) d l (.bad a er) by rw [show k - 1+(6 - k) = 5 by omega];exact hR) (by omega));have HU:=Hi ((below_UB (bp:=bp) HB0.out).trans hU);clear hR hU;go_wp2_with fail
  exact ⟨rfl,.inr ⟨a,er,rfl,HR.out,HU.out⟩⟩
 have hs1:=hU.size;have h1b:bp < w1.heap.size:=hP.lt;have HJ:Hid (SgI w bp d k l w1.heap.size (w1.alloc (.cells #[.int .i64 (kx:Int),.string ⟨sx.toArray⟩,.int .u32 (nx:Int),.int .i64 (ax:Int),.slice A la cA,.slice B lb cB] 62)) x kx ax nx sx A la cA B lb cB r):=Hi
  ⟨Blk.new _ _ _,(hT.mono (N':=fun b=>w.heap.size+1≤b∧b≠w1.heap.size) fun b hb hs=>⟨by omega,by omega⟩).upd ((Upd.refl (fun _=>False) w1).alloc _) (fun _ _ h=>h),
   fun o h=>ch_lev (6 - k) x r (by omega) (by rw [show k - 1+(6 - k) = 5 by omega];exact hR) h,hP.below ((Below.refl _ _).alloc (Nat.le_refl _) _),hG,hr,((below_UB HB0.out).trans hU).alloc _,(HB.out.upd hU (by omega)).alloc _⟩
 clear hT hR hP hG hU;go_wp2_with fail
 go_loopw [6,7,8,9] (fun _ _ _ _ wr=>∃ x kx ax nx sx A la cA B lb cB r,Hid (SgI w bp d k l w1.heap.size wr x kx ax nx sx A la cA B lb cB r)) (fun _ _ _ _ wr=>lenAt wr bp)
 case atStart=>exact ⟨_,_,_,_,_,_,_,_,_,_,_,_,HJ⟩
 case round=>
  clear HJ;obtain ⟨x,kx,ax,nx,sx,A,la,cA,B,lb,cB,r,HH⟩:=hrel;obtain ⟨t,r',rfl⟩:=HH.out.gt.cons;have HN:=Hi (next wr bp d t r' HH.out.ps);have hsg:=sign;obtain ⟨L,hL⟩:∃ L,levT t.s=L:=⟨_,rfl⟩;obtain ⟨K,hK⟩:∃ K,kindT t.s=K:=⟨_,rfl⟩;have HSG:=Hi fun (w':World)=>(show Calls Tryz.prog 160 #[.string ⟨t.s.toArray⟩] w' fun e w''=>e = .returned (.tuple #[.int .i64 (K:Int),.int .i64 (L:Int)])∧w'=w'' by rw [←hL,←hK];exact sign w' t.s)
  have hL5:L≤5:=by rw [←hL];exact levT_le _
  by_cases hlk:L < k
  ·have q1:decide ((L:Int) < (k:Int))=true:=by simp;omega
   have q2:decide (L < k)=true:=by simp;omega
   have hend:∀ t' r0,t :: r'=t' :: r0→∀ i,k - 1≤i→i < 5→onS i t'=false:=fun t' r0 e i h1 h2=>by
    cases e;rw [onS_lev HH.out.gt.hd h2,hL];simp;omega
   have HEND:=Hi (HH.out.rd _ (ch_end (by omega) hend));clear hend;go_wp2_with fail
   refine HN.out.mono ?_;rintro e w2 ⟨rfl,hb2⟩;have HB2:=Hi hb2;have hX:=HH.out.box.below hb2 HH.out.box.lt;have hY:=HH.out.res.below hb2 HH.out.res.lt;clear hb2;go_wp2_with fail
   refine (HSG.out _).mono ?_;rintro e w' ⟨rfl,rfl⟩;obtain ⟨⟨e0,e1,e2,e3,e4,e5⟩,z0,z1,z2,z3,z4,z5⟩:=Blk.c6 hX;obtain ⟨⟨g0,g1,g2,g3,g4,g5⟩,y0,y1,y2,y3,y4,y5⟩:=Blk.c6 hY;have HY:=Hi hY;clear hX hY;go_wp2_with fail
   exact bodyPost_ret (resNd rfl rfl (Blk.put6 HY.out _ _ _ _ _ _) rfl) rfl (out_ok hlt (Nat.lt_succ_self _) ((HH.out.tr.mono (N':=fun b=>w.heap.size+1≤b) fun b hb _=>hb.1).upd (Upd.of_below HB2.out fun _=>False) (fun _ _ h=>h)) HEND.out (HH.out.ps.below HB2.out) HH.out.gt HH.out.lt (HH.out.ub.trans (below_UB HB2.out)))
  ·have q1:decide ((L:Int) < (k:Int))=false:=by simp;omega
   have q2:decide (L < k)=false:=by simp;omega
   obtain ⟨q,rfl⟩:∃ q,L=q+1:=⟨L - 1,by omega⟩;have hk4:t.k = 4:=lev_lit HH.out.gt.hd (by omega);have hgr:=HH.out.gt.tail (by omega);obtain ⟨t2,r2,hr2⟩:=hgr.cons;have hon:∀ i,i < 5→onS i t=decide (i=q):=fun i hi=>by
    rw [onS_lev HH.out.gt.hd hi,hL];simp only [decide_eq_decide];omega
   have hKq:K=if q = 3 then 4 else 3:=by
    rw [←hK];unfold kindT;rw [hL];by_cases h3:q = 3
    ·subst h3;rfl
    ·rw [if_neg (by omega),if_neg (by omega),if_neg h3]
   have HTK:=Hi fun (w':World) (hb:Below wr.heap.size wr w')=>take w' bp d t r' (HH.out.ps.below hb) (by rw [hr2];simp)
   have hlr:=HH.out.lt;simp only [List.length_cons] at hlr;have HSR:=Hi fun (w':World) (hp:PS w' bp r' d)=>(show Calls Tryz.prog 135 #[.pointer (some ⟨bp,0,none⟩),.int .i64 ((q:Int)+1+1)] w' (OutP w' bp d r' (Rd numV (.lev (q+1)) d r')) from by
    have:=HS w' bp d (q+2) r' (by omega) (by omega) (by omega) hd hp hgr;have e:((q+2:Nat):Int)=(q:Int)+1+1:=by omega
    rw [e] at this;exact this)
   have HON:=Hi hon;have HKQ:=Hi hKq;have e1:((q+1:Nat):Int)=(q:Int)+1:=by omega
   rw [e1] at HSG q1;clear hon hKq hr2 hgr hL hK e1;go_wp2_with fail
   refine HN.out.mono ?_;rintro e w2 ⟨rfl,hb2⟩;have HB2:=Hi hb2;have HT2:=Hi (HTK.out w2 hb2);clear hb2 HTK;go_wp2_with fail
   refine (HSG.out _).mono ?_;rintro e w' ⟨rfl,rfl⟩;go_wp2_with fail
   refine HT2.out.mono ?_;rintro e w3 ⟨rfl,hp3,hu3⟩;have HS3:=Hi (HSR.out w3 hp3);have HU3:=Hi ((below_UB (bp:=bp) HB2.out).trans hu3);clear hp3 hu3 HSR HT2;go_wp2_with fail
   refine HS3.out.mono ?_;rintro e w4 (⟨ky,ay,sy,ny,A',la',cA',B',lb',cB',y,r4,rfl,hT,hR,hP,hG,hr4,hU⟩ | ⟨a,er,rfl,hR,hU⟩)
   ·have hu4:UB bp wr w4:=HU3.out.trans hU;have h1b':¬ w1.heap.size=bp:=by omega
    have hX:=HH.out.box.upd hu4 h1b';have hY:=HH.out.res.upd hu4 (show ¬ w.heap.size=bp by omega);have hglt:=hX.lt;obtain ⟨⟨e0,e1,e2,e3,e4,e5⟩,z0,z1,z2,z3,z4,z5⟩:=Blk.c6 hX;have HX:=Hi hX;have HY:=Hi hY;have HT:=Hi hT;have HR:=Hi hR;have HP:=Hi hP;have HG:=Hi hG;have HU4:=Hi hu4;clear hX hY hT hR hP hG hU hu4;obtain ⟨w5,hw5⟩:∃ w5,w4.alloc (.cells #[.int .i64 (ky:Int),.string ⟨sy.toArray⟩,.int .u32 (ny:Int),.int .i64 (ay:Int),.slice A' la' cA',.slice B' lb' cB'] 62)=w5:=⟨_,rfl⟩;obtain ⟨w6,hw6⟩:∃ w6,w5.alloc (.cells #[.int .i64 (kx:Int),.string ⟨sx.toArray⟩,.int .u32 (nx:Int),.int .i64 (ax:Int),.slice A la cA,.slice B lb cB,.int .i64 (ky:Int),.string ⟨sy.toArray⟩,.int .u32 (ny:Int),.int .i64 (ay:Int),.slice A' la' cA',.slice B' lb' cB'] 62)=w6:=⟨_,rfl⟩;have hs5:w5.heap.size=w4.heap.size+1:=by rw [←hw5];simp
    have hb5:Below w4.heap.size w4 w5:=by rw [←hw5];exact (Below.refl _ _).alloc (Nat.le_refl _) _
    have hb6:Below w4.heap.size w4 w6:=by rw [←hw6];exact hb5.alloc hb5.size _
    have hsr:wr.heap.size≤w3.heap.size:=HU3.out.size;have hxx:TIn (fun b=>w.heap.size+1≤b∧b≠w1.heap.size) w5 x (ndC kx ax sx nx A la cA B lb cB):=(HH.out.tr.upd HU4.out fun b hb e=>by omega).upd (Upd.of_below hb5 fun _=>False) (fun _ _ h=>h);have hgr0:=HH.out.box.lt;have hyy:TIn (fun b=>w.heap.size+1≤b∧b≠w1.heap.size) w5 y (ndC ky ay sy ny A' la' cA' B' lb' cB'):=(HT.out.mono (N':=fun b=>w.heap.size+1≤b∧b≠w1.heap.size) fun b hb _=>⟨by omega,by omega⟩).upd (Upd.of_below hb5 fun _=>False) (fun _ _ h=>h);have htt:TIn (fun b=>w.heap.size+1≤b∧b≠w1.heap.size) w6 (bin q x t.s [y]) (ndC K ax t.s 0 (some ⟨w4.heap.size+1,0,none⟩) 2 2 none 0 0):=by
     have h:=nd_two hxx hyy (show w.heap.size+1≤w5.heap.size∧w5.heap.size≠w1.heap.size from ⟨by omega,by omega⟩) 62 K ax t.s;unfold bin;rw [←HKQ.out,tIn_at HH.out.tr,←hw6,←hs5];exact h
    have HN6:=Hi (show Calls Tryz.prog 72 #[.int .i64 (K:Int),.string ⟨t.s.toArray⟩,.int .i64 (ax:Int),.slice (some ⟨w4.heap.size+1,0,none⟩) 2 2] w6 _ from node w6 K ax t.s (some ⟨w4.heap.size+1,0,none⟩) 2 2);have HB6:=Hi hb6;have HTT:=Hi htt;rw [←hw5] at hw6;have HW6:=Hi hw6;clear hw5 hw6 hb5 hb6 hxx hyy htt;go_wp2_with fail
    rw [HW6.out];refine HN6.out.mono ?_;rintro e w7 ⟨rfl,hb7⟩;have h46:=HB6.out.size;have hX7:=(HX.out.below HB6.out HX.out.lt).below hb7 (by omega);have hY7:=(HY.out.below HB6.out HY.out.lt).below hb7 (by have:=HY.out.lt;omega);obtain ⟨⟨g0,g1,g2,g3,g4,g5⟩,y0,y1,y2,y3,y4,y5⟩:=Blk.c6 hX7;have HX7:=Hi hX7;have HY7:=Hi hY7;have HB7:=Hi hb7;clear hX7 hY7 hb7 e0 e1 e2 e3 e4 e5 z0 z1 z2 z3 z4 z5;have hnw:w.heap.size≠w1.heap.size:=by omega
    have HJ8:Hid (SgI w bp d k l w1.heap.size (put6 w7 w1.heap.size (.int .i64 (K:Int)) (.string ⟨t.s.toArray⟩) (.int .u32 0) (.int .i64 (ax:Int)) (.slice (some ⟨w4.heap.size+1,0,none⟩) 2 2) (.slice none 0 0)) (bin q x t.s [y]) K ax 0 t.s (some ⟨w4.heap.size+1,0,none⟩) 2 2 none 0 0 r4):=Hi
     ⟨Blk.put6 HX7.out _ _ _ _ _ _,(HTT.out.upd (Upd.of_below HB7.out fun _=>False) (fun _ _ h=>h)).upd (put6_upd (X:=fun b=>b=w1.heap.size) (Upd.refl _ _) (fun _=>rfl) _ _ _ _ _ _) (fun b hb e=>hb.2 e),
      fun o h=>HH.out.rd o (ch_sign (q:=q) (by omega) (by omega) (by omega) HON.out HR.out h),
      ((HP.out.below HB6.out).below HB7.out).far (put6_upd (X:=fun b=>b=w1.heap.size) (Upd.refl _ _) (fun _=>rfl) _ _ _ _ _ _) (fun b hb=>by omega),
      HG.out,by omega,put6_upd (((HH.out.ub.trans HU4.out).trans (below_UB HB6.out)).trans (below_UB HB7.out)) (fun h=>absurd h (by omega)) _ _ _ _ _ _,put6_far HY7.out hnw _ _ _ _ _ _⟩
    go_wp2_with fail
    go_roundw
    case rel=>exact ⟨_,_,_,_,_,_,_,_,_,_,_,_,HJ8⟩
    case measure=>
     have e8:=PS.len HJ8.out.ps;have er:=PS.len HH.out.ps;simp only [List.length_cons] at er;show lenAt (put6 w7 w1.heap.size (.int .i64 (K:Int)) (.string ⟨t.s.toArray⟩) (.int .u32 0) (.int .i64 (ax:Int)) (.slice (some ⟨w4.heap.size+1,0,none⟩) 2 2) (.slice none 0 0)) bp < lenAt wr bp;omega
   ·have HR:=Hi (HH.out.rd _ (ch_sign_bad (q:=q) (by omega) (by omega) (by omega) HON.out hR));have HU:=Hi (HU3.out.trans hU);clear hR hU;go_wp2_with fail
    exact ⟨rfl,.inr ⟨a,er,rfl,HR.out,HH.out.ub.trans HU.out⟩⟩
theorem expr_signed:∀ n,ExC n∧SgC n
 | 0=>⟨fun w bp d l hl _ _ hg=>by
   obtain ⟨t,r,rfl⟩:=hg.cons;simp at hl,fun w bp d k l hl _ _ _ _ hg=>by
   obtain ⟨t,r,rfl⟩:=hg.cons;simp at hl⟩
 | n+1=>by
  obtain ⟨he,hs⟩:=expr_signed n;have hs1:=signed_up hs (unary he (n+1) (Nat.le_refl _));exact ⟨fun w bp d l hl hd hp hg=>expr w bp d l hp fun w0 hp0=>hs1 w0 bp d 1 l hl (by omega) (by omega) hd hp0 hg,hs1⟩
theorem ex(n:Nat):ExC n:=(expr_signed n).1
end
section
attribute [local go_sem] fTk0 fTk1 fTk2
def MuP(w:World)(bp d:Nat)(b:Bs)(t:Tk)(r:List Tk)(e:Ending)(w':World):Prop:=
 (isS b t=true∧e = .returned (.agg #[.int .i64 (t.k:Int),.string ⟨t.s.toArray⟩,.int .i64 (t.at_:Int)])∧PS w' bp r d∧Gt r∧UB bp w w')∨(isS b t=false∧e=panV t.at_ 100∧UB bp w w')
theorem must_(w:World)(bp d:Nat)(t:Tk)(r:List Tk)(b:Bs)(hp:PS w bp (t :: r) d)(hg:Gt (t :: r))(hb:litB b=true) :
  Calls Tryz.prog 107 #[.pointer (some ⟨bp,0,none⟩),.string ⟨b.toArray⟩] w (MuP w bp d b t r):=by
 have he:=isS_eq hg.hd hb;cases hq:(t.s==b)
 ·exact (must_no w bp d t r b hp hq).mono fun e w' h=>.inr ⟨by rw [he,hq],h.1,h.2⟩
 ·have hk:t.k≠0:=by
   have:=okt_lit hg.hd (by rw [eq_of_beq hq];exact hb);omega
  have hgr:=hg.tail hk;obtain ⟨t2,r2,hr2⟩:=hgr.cons;exact (must_yes w bp d t r b hp hq (by rw [hr2];simp)).mono fun e w' h=>.inl ⟨by rw [he,hq],h.1,h.2.1,hgr,h.2.2⟩
def NaP(w:World)(bp d:Nat)(t:Tk)(r:List Tk)(e:Ending)(w':World):Prop:=
 (t.k = 1∧e = .returned (.string ⟨t.s.toArray⟩)∧PS w' bp r d∧Gt r∧UB bp w w')∨(t.k≠1∧e=panV t.at_ 100∧UB bp w w')
theorem name_(w:World)(bp d:Nat)(t:Tk)(r:List Tk)(hp:PS w bp (t :: r) d)(hg:Gt (t :: r)) :
  Calls Tryz.prog 108 #[.pointer (some ⟨bp,0,none⟩)] w (NaP w bp d t r):=by
 by_cases hk:t.k = 1
 ·have hgr:=hg.tail (by omega);obtain ⟨t2,r2,hr2⟩:=hgr.cons;exact (name_yes w bp d t r hp hk (by rw [hr2];simp)).mono fun e w' h=>.inl ⟨hk,h.1,h.2.1,hgr,h.2.2⟩
 ·exact (name_no w bp d t r hp hk).mono fun e w' h=>.inr ⟨hk,h.1,h.2⟩
theorem set_no{num:Bs→Nat×Nat}{k a d:Nat}{t:Tk}{r:List Tk}(ht:t.k≠1):Ev (fun f=>SetK num f k a d (t :: r)) (.bad t.at_ 100):=ev_eq (ev_now _) fun _=>name_n ht _
theorem set_eq{num:Bs→Nat×Nat}{k a d:Nat}{t u:Tk}{r:List Tk}(ht:t.k = 1)(hu:isS [61] u=false):Ev (fun f=>SetK num f k a d (t :: u :: r)) (.bad u.at_ 100):=
 ev_eq (ev_now _) fun _=>(name_y ht _).trans (must_n hu _)
theorem set_fin{num:Bs→Nat×Nat}{k a d:Nat}{t u:Tk}{r:List Tk}{o:Out}(ht:t.k = 1)(hu:isS [61] u=true)(h:Rd num (.fin k a t.s []) d r o):Ev (fun f=>SetK num f k a d (t :: u :: r)) o:=
 ev_eq h fun _=>(name_y ht _).trans (must_y hu _)
theorem set(k a:Nat)(w:World)(bp d:Nat)(l:List Tk)(hd:d≤60)(hp:PS w bp l d)(hg:Gt l) :
  Calls Tryz.prog 85 #[.pointer (some ⟨bp,0,none⟩),.int .i64 (k:Int),.int .i64 (a:Int)] w (OutP w bp d l (fun o=>Ev (fun f=>SetK numV f k a d l) o)):=by
 have hlt:=hp.lt;obtain ⟨t,r,rfl⟩:=hg.cons;obtain ⟨w0,hw0⟩:∃ w0,w.alloc (.cells #[.int .i64 0,.string ⟨#[]⟩,.int .u32 0,.int .i64 0,.slice none 0 0,.slice none 0 0] 62)=w0:=⟨_,rfl⟩;have hb0:Below w.heap.size w w0:=by rw [←hw0];exact (Below.refl _ _).alloc (Nat.le_refl _) _
 have hB:Blk w0 w.heap.size 62 #[.int .i64 0,.string ⟨#[]⟩,.int .u32 0,.int .i64 0,.slice none 0 0,.slice none 0 0]:=by rw [←hw0];exact Blk.new _ _ _
 have HN:=Hi (name_ w0 bp d t r (hp.below hb0) hg);have HU0:=Hi (below_UB (bp:=bp) hb0);have HB:=Hi hB;have HW:=Hi hw0;have hlb:=hB.lt;clear hb0 hp hw0 hB hg;go_enter Tryz.func85,Tryz.ntmps85;go_wp2_with fail
 rw [HW.out];refine HN.out.mono ?_;rintro e w1 (⟨hk,rfl,hp1,hg1,hu1⟩ | ⟨hk,rfl,hu1⟩);rotate_left
 ·have HU1:=Hi (HU0.out.trans hu1);clear hu1;go_wp2_with fail
  exact ⟨rfl,.inr ⟨_,_,rfl,set_no hk,HU1.out⟩⟩
 obtain ⟨u,r1,rfl⟩:=hg1.cons;have HM:=Hi (must_ w1 bp d u r1 [61] hp1 hg1 (by decide));have HU1:=Hi (HU0.out.trans hu1);have HX1:=Hi (HB.out.upd hu1 (by omega));have h01:=hu1.size;clear hp1 hg1 hu1;go_wp2_with fail
 refine HM.out.mono ?_;rintro e w2 (⟨hu,rfl,hp2,hg2,hu2⟩ | ⟨hu,rfl,hu2⟩);rotate_left
 ·have HU2:=Hi (HU1.out.trans hu2);clear hu2;go_wp2_with fail
  exact ⟨rfl,.inr ⟨_,_,rfl,set_eq hk hu,HU2.out⟩⟩
 have HE:=Hi (ex r1.length w2 bp d r1 (Nat.le_refl _) hd hp2 hg2);have HU2:=Hi (HU1.out.trans hu2);have HX2:=Hi (HX1.out.upd hu2 (by omega));have h12:=hu2.size;clear hp2 hg2 hu2;go_wp2_with fail
 refine HE.out.mono ?_;rintro e w3 (⟨kx,ax,sx,nx,A,la,cA,B,lb,cB,x,r3,rfl,hT,hR,hP,hG,hr,hU⟩ | ⟨a1,er,rfl,hR,hU⟩);rotate_left
 ·have HR:=Hi (set_fin (k:=k) (a:=a) hk hu (r_fin_bad hR));have HU3:=Hi (HU2.out.trans hU);clear hR hU;go_wp2_with fail
  exact ⟨rfl,.inr ⟨_,_,rfl,HR.out,HU3.out⟩⟩
 have h23:=hU.size;obtain ⟨w4,hw4⟩:∃ w4,w3.alloc (.cells #[.int .i64 (kx:Int),.string ⟨sx.toArray⟩,.int .u32 (nx:Int),.int .i64 (ax:Int),.slice A la cA,.slice B lb cB] 62)=w4:=⟨_,rfl⟩;have hb4:Below w3.heap.size w3 w4:=by rw [←hw4];exact (Below.refl _ _).alloc (Nat.le_refl _) _
 have hT4:TIn (fun b=>w.heap.size+1≤b) w4 (.mk k a t.s 0 [] [x]) (ndC k a t.s 0 (some ⟨w3.heap.size,0,none⟩) 1 1 none 0 0):=by
  rw [←hw4];exact (nd_one hT h23 62 k a t.s).up (by omega)
 have HN4:=Hi (node w4 k a t.s (some ⟨w3.heap.size,0,none⟩) 1 1);have HX4:=Hi ((HX2.out.upd hU (by omega)).below hb4 (by have:=(HX2.out.upd hU (show ¬ w.heap.size=bp by omega)).lt;omega));have HU4:=Hi ((HU2.out.trans hU).trans (below_UB hb4));have HP4:=Hi (hP.below hb4);have HG4:=Hi hG;have HT4:=Hi hT4;have HR:=Hi hR;have HW4:=Hi hw4;clear hT hR hP hG hU hT4 hw4 hb4;go_wp2_with fail
 rw [HW4.out];refine HN4.out.mono ?_;rintro e w5 ⟨rfl,hb5⟩;obtain ⟨v,r4,rfl⟩:=HG4.out.cons;obtain ⟨w6,hw6⟩:∃ w6,w5.alloc (.cells #[.int .i64 (k:Int),.string ⟨t.s.toArray⟩,.int .u32 0,.int .i64 (a:Int),.slice (some ⟨w3.heap.size,0,none⟩) 1 1,.slice none 0 0] 62)=w6:=⟨_,rfl⟩;have hb56:Below w5.heap.size w5 w6:=by rw [←hw6];exact (Below.refl _ _).alloc (Nat.le_refl _) _
 have hb6:Below w4.heap.size w4 w6:=hb5.trans (hb56.mono hb5.size);have hbn:Blk w6 w5.heap.size 62 #[.int .i64 (k:Int),.string ⟨t.s.toArray⟩,.int .u32 0,.int .i64 (a:Int),.slice (some ⟨w3.heap.size,0,none⟩) 1 1,.slice none 0 0]:=by rw [←hw6];exact Blk.new _ _ _
 have h45:=hb5.size;have hx4:=HX4.out.lt;have HM6:=Hi (must_ w6 bp d v r4 [59] (HP4.out.below hb6) HG4.out (by decide));have HX6:=Hi (HX4.out.below hb6 HX4.out.lt);have HU6:=Hi (HU4.out.trans (below_UB hb6));have HT6:=Hi (HT4.out.upd (Upd.of_below hb6 fun _=>False) (fun _ _ h=>h));have HBN:=Hi hbn;have HW6:=Hi hw6;have hp4l:=HP4.out.lt;clear hb5 hb56 hb6 hbn hw6;go_wp2_with fail
 rw [HW6.out];refine HM6.out.mono ?_;rintro e w7 (⟨hv,rfl,hp7,hg7,hu7⟩ | ⟨hv,rfl,hu7⟩);rotate_left
 ·have HR7:=Hi (set_fin (k:=k) (a:=a) hk hu (r_fin_end HR.out hv));have HU7:=Hi (HU6.out.trans hu7);clear hu7;go_wp2_with fail
  exact ⟨rfl,.inr ⟨_,_,rfl,HR7.out,HU7.out⟩⟩
 have HR7:=Hi (set_fin (k:=k) (a:=a) hk hu (r_fin HR.out hv));have hX:=HX6.out.upd hu7 (show ¬ w.heap.size=bp by omega);have hY:=HBN.out.upd hu7 (show ¬ w5.heap.size=bp by omega);obtain ⟨⟨e0,e1,e2,e3,e4,e5⟩,z0,z1,z2,z3,z4,z5⟩:=Blk.c6 hX;obtain ⟨⟨g0,g1,g2,g3,g4,g5⟩,y0,y1,y2,y3,y4,y5⟩:=Blk.c6 hY;have HX7:=Hi hX;have HP7:=Hi hp7;have HG7:=Hi hg7;have hlr:r4.length < (t :: u :: r1).length:=by simp at hr ⊢;omega
 have HT7:=Hi (HT6.out.upd hu7 fun b hb e=>by omega);have HU7:=Hi (HU6.out.trans hu7);clear hX hY hp7 hg7 hu7;go_wp2_with fail
 exact bodyPost_ret (resNd rfl rfl (Blk.put6 HX7.out _ _ _ _ _ _) rfl) rfl (out_ok hlt (Nat.lt_succ_self _) HT7.out HR7.out HP7.out HG7.out hlr HU7.out)
end
end Go.Proofs.YtdhoemlomojfaaaGreatDoor.Pa
