/- DERIVED. Au. By an AI agent. -/
import Derived.ProofKit
import Derived.OwnWalk
import Derived.LoopTactic
import Derived.IntWalk
import Derived.TacticsIn
import Derived.KernelRfl
import Derived.Tactics2
namespace Go.Proofs.YtcgibpdjfgjldaaGreatDoor
section
theorem V2i{P:Prop}(h:P:=by
 have hx:=HXr.out.below HBB.out HXr.out.lt;obtain ⟨⟨e0,e1,e2,e3,e4,e5⟩,y0,y1,y2,y3,y4,y5⟩:=Blk.c6 hx;obtain ⟨⟨g0,g1,g2,g3,g4,g5⟩,x0,x1,x2,x3,x4,x5⟩:=Blk.c6 (HYr.out.below HBB.out HYr.out.lt);have H1:=Hi hx;clear hx;go_wp2_with fail
 refine bodyPost_ret (resNd rfl rfl (Blk.put6 H1.out _ _ _ _ _ _) rfl) rfl ?_;exact q7u (lo:=w.heap.size+1) hlt (Nat.lt_succ_self _) ((HT.out.mono (N':=fun b=>w.heap.size+1<=b) fun b hb _=>hb.1).upd (Upd.of_below HBB.out fun _=>False) (fun _ _ h=>h)) (HRD.out _ (q6K fun t0 r0 e0=>by cases e0;exact HON.out)) (HQ.out.below HBB.out) HG.out hl' (HUr.out.trans (q00 HBB.out))):P:=h
theorem V0F{P:Prop}(h:P:=by
 have HJ8:=Hi hJ8;have HY8:=Hi (Blk.put6 HYH.out (.int .i64 3) (.string ⟨v.s.toArray⟩) (.int .u32 0) (.int .i64 (a:Int)) (.slice (some ⟨we.heap.size+1,0,none⟩) 2 2) (.slice none 0 0));have HX8:=Hi ((HXf.out.below HFH.out HXf.out.lt).upd hput (show ¬ w.heap.size=w1.heap.size from V0));have HU8:=Hi (q02 ((HUr.out.trans HUf.out).trans (q00 HFH.out)) (fun h=>absurd h (show ¬ w1.heap.size < w.heap.size from V0)) (.int .i64 3) (.string ⟨v.s.toArray⟩) (.int .u32 0) (.int .i64 (a:Int)) (.slice (some ⟨we.heap.size+1,0,none⟩) 2 2) (.slice none 0 0));have HL8:=Hi (hput.lies (HLf.out.below HFH.out) fun b o e _ hx=>Va);have hs8:=hput.size;clear hJ8
 go_roundw
 case rel=>exact ⟨3,a,v.s,0,some ⟨we.heap.size+1,0,none⟩,2,2,none,0,0,HJ8,HY8,HX8,HU8,HL8,Nat.le_trans (Nat.le_trans h3r (show wr.heap.size<=wh.heap.size from V0)) hs8⟩
 case measure=>
  exact V2F):P:=h
theorem Vd{P:Prop}(h:P:=by
 go_wp2_with fail
 first | go_end0 | skip
 all_goals first | exact HEND.out | exact bodyPost_ret (results_none rfl _ _ _) rfl HEND.out):P:=h
theorem V2j{P:Prop}(h:P:=by
 (try dsimp only);refine hK.out _ _ trivial hS15 ?_;clear hK K hown2 hat2;(try simp only [HT.pS]);refine HT.tm 16 rfl trivial (fun _=>hS15) ?_;refine HT.tm 17 rfl trivial (fun _=>hS15) ?_;have hXW:=HXd.out.upd hS15 (Nat.lt_irrefl _);obtain ⟨⟨e0,e1,e2,e3,e4,e5⟩,z0,z1,z2,z3,z4,z5⟩:=Blk.c6 hXW;have hgW:=hXW.lt;have HEND:=Hi (HFIN.out W15 _ _ hS15 hR15);refine HT.oneS (i:=18) V1 V1 rfl (fun K hK=>?_);go_simp;(try dsimp only);refine hK.out _ _ trivial ?_;clear hK K;(try simp only [HT.pS]);refine HT.tgm 19 rfl trivial ?_;refine HT.tgm 20 rfl trivial ?_;clear e0 e1 e2 e3 e4 e5 z0 z1 z2 z3 z4 z5;obtain ⟨⟨e0,e1,e2,e3,e4,e5⟩,z0,z1,z2,z3,z4,z5⟩:=Blk.c6 (hXW.set 0 (.slice A1 (r.length+1) c1));have hgV:=(hXW.set 0 (.slice A1 (r.length+1) c1)).lt;refine HT.oneS (i:=21) V1 V1 rfl (fun K hK=>?_);go_simp;(try dsimp only);refine hK.out _ _ trivial ?_;clear hK K;(try simp only [HT.pS]);refine HT.done V1 ?_;clear hS15;go_wp2_with fail
 first | go_end0 | skip
 all_goals first | exact ⟨rfl,HEND.out⟩ | exact bodyPost_ret (results_none rfl _ _ _) rfl ⟨rfl,HEND.out⟩):P:=h
theorem VQ{P:Prop}(h:P:=by
 go_wp2_with fail
 go_ret;exact ⟨(congrArg (fun b=>Ending.returned (Value.bool b)) HB.out).symm,rfl⟩):P:=h
theorem V06{P:Prop}(h:P:=by
 obtain ⟨b',o,c,nn,hn,hll,hc,hm,⟨c0,c1,c2,c3⟩,⟨z0,z1,z2,z3⟩,f4,f5,f6⟩:=hP9.head;have hz:((er:Int)==0)=false:=V4;have hx:=HXr.out;obtain ⟨⟨e0,e1,e2,e3,e4,e5⟩,y0,y1,y2,y3,y4,y5⟩:=Blk.c6 hx;obtain ⟨⟨g0,g1,g2,g3,g4,g5⟩,x0,x1,x2,x3,x4,x5⟩:=Blk.c6 HYr.out;have HP9:=Hi hP9;have HR9:=Hi hR9;have HE9:=Hi he;have hql:=hP9.lt;clear HJ hP9 hR9 he hx hn;go_wp2_with fail
 refine bodyPost_ret (resNd rfl rfl (Blk.put6 HXr.out _ _ _ _ _ _) rfl) rfl ?_;exact q1A _ _ _ _ _ _ _ _ _ _ hlt HE9.out HR9.out HP9.out HUr.out):P:=h
theorem V0G{P:Prop}(h:P:=by
 have hpl:x.place=a:=tIn_at HT.out;have h1:TIn (fun b=>w.heap.size+1<=b/\b≠w1.heap.size) wf x (ndC k a s m A la cA B lb cB):=HT.out.upd HUf.out fun b hb e=>V0
 have h2:TIn (fun b=>w.heap.size+1<=b/\b≠w1.heap.size) wf y (ndC k' a' s' m' A' la' cA' B' lb' cB'):=(hT5.mono fun b hb hs=>⟨V0,V0⟩).upd (Upd.of_below HBF.out fun _=>False) (fun _ _ h=>h);have h3:=q8Z (e:=26) (N:=fun b=>w.heap.size+1<=b/\b≠w1.heap.size) h1 h2 ⟨V0,V0⟩ 3 a 0 v.s;rw [show wf.alloc (.cells (ndC k a s m A la cA B lb cB ++ ndC k' a' s' m' A' la' cA' B' lb' cB').toArray 26)=wg from HWG.out,hsf] at h3;unfold bin;rw [hpl];exact (h3.upd (Upd.of_below HGH.out fun _=>False) (fun _ _ h=>h)).upd hput fun b hb e=>hb.2 e):P:=h
theorem V2k{P:Prop}(h:P:=by
 obtain ⟨i,hi,rfl,HBr,H0r,HXr,HQr⟩:=hrel;clear e0 e1 e2 e3 e4 e5 z0 z1 z2 z3 z4 z5 hgl;obtain ⟨⟨e0,e1,e2,e3,e4,e5⟩,z0,z1,z2,z3,z4,z5⟩:=Blk.c6 HXr.out;have hgl:=HXr.out.lt;by_cases hlt:i < l.length
 ·have hil:(i:Int) < (l.length:Int):=by omega
  obtain ⟨y,hy⟩:∃ y,l[i]?=some y:=⟨_,List.getElem?_eq_getElem hlt⟩;obtain ⟨b9,o9,k',a',s',n',A',la',cA',B',lb',cB',hA9,hTy,hbl,g0',g1,g2,g3,g4,g5⟩:=HP.out.at_ H0r.out hy;subst hA9;have HC:=Hi (IH.out i y hy wr k' a' s' n' A' la' cA' B' lb' cB' H0r.out hTy);have hq:=HQr.out;rw [drop_at hy,q0b] at hq;have HQ2:=Hi hq;have hbl2:b9 < wr.heap.size:=Nat.lt_of_lt_of_le hbl H0r.out.size;exact V2y
 ·exact V2R):P:=h
theorem V1c{P:Prop}(h:P:=by
 obtain ⟨g1,g3⟩:=hP.dc;have h1:Blk w1 w.heap.size 26 #[.int .i64 0,.string ⟨#[]⟩,.int .u32 0,.int .i64 0,.slice none 0 0,.slice none 0 0]:=HB.out.upd hU V0;obtain ⟨⟨e0,e1,e2,e3,e4,e5⟩,z0,z1,z2,z3,z4,z5⟩:=Blk.c6 h1;have hlt1:=hP.lt;have hlg:=h1.lt;have hgb:w.heap.size≠bp:=V0;have H1:=Hi h1;have HT:=Hi hT;have HR:=Hi hR;have HP:=Hi hP;have HG:=Hi hG;have HU:=Hi hU;clear h1 hT hR hP hG hU;go_wp2_with fail
 refine bodyPost_ret (resNd rfl rfl ((Blk.put6 (H1.out.far hgb _) _ _ _ _ _ _).alloc _) rfl) rfl ?_;have hs1:UB bp w1 (w1.setCell ⟨bp,1,none⟩ (.int .i64 (d:Int))):=(Upd.refl (fun b=>b=bp) w1).setCell (fun _=>rfl) _;exact (q0L hlt HB.out.lt (TIn.far HT.out hs1 fun b hb=>by have:=HB.out.lt;omega) HR.out (HP.out.deep d) HG.out hr ((HU0.out.trans HU.out).trans hs1)).below ((Below.refl _ _).alloc (Nat.le_refl _) _)):P:=h
theorem Vb{P:Prop}(h:P:=by (intro w hSw;have q2:=Blk.cell hSw 2;have q3:=Blk.cell hSw 3;clear hSw;go_simp;try with_reducible rfl)):P:=h
theorem V2l{P:Prop}(h:P:=by
 clear h4;cases res with
 | bad a2 er2=>
  obtain ⟨rfl,hu4⟩:=h4';have HEND:=Hi (show XP g x ca w (.bad a2 er2) (panF a2 er2) w4 from ⟨rfl,hu4⟩);clear hu4;go_wp2_with fail
  exact ⟨rfl,HEND.out⟩
 | ok q=>
  obtain ⟨b2,nd2⟩:=q;obtain ⟨rfl,hB4,hu4⟩:=h4';have HEND:=Hi (show XP g x ca w (.ok (b2,nd2)) (.returned (.bool b2)) w4 from ⟨rfl,hB4,hu4⟩);clear hB4 hu4;exact VB):P:=h
theorem V07{P:Prop}(h:P:=by
 refine .inl ⟨x,r',?_,fun o h=>r_lev V2 hR h,(hP.below HB2.out).below hb3,hG,hr⟩;exact ((hT.mono (N':=fun b=>w.heap.size+1<=b/\b≠w1.heap.size) fun b hb hs=>⟨V0,V0⟩).upd (Upd.of_below HB2.out fun _=>False) (fun _ _ h=>h)).upd (Upd.of_below hb3 fun _=>False) (fun _ _ h=>h)):P:=h
theorem V08{P:Prop}(h:P:=by (intro w hSw;obtain ⟨y0,y1,y2⟩:=hSw;go_simp;try with_reducible rfl)):P:=h
theorem V1d{P:Prop}(h:P:=by
 have h1:Blk w1 w.heap.size 26 #[.int .i64 0,.string ⟨#[]⟩,.int .u32 0,.int .i64 0,.slice none 0 0,.slice none 0 0]:=HB.out.upd hU V0;obtain ⟨⟨e0,e1,e2,e3,e4,e5⟩,z0,z1,z2,z3,z4,z5⟩:=Blk.c6 h1;have H1:=Hi h1;have HT:=Hi hT;have HR:=Hi hR;have HP:=Hi hP;have HG:=Hi hG;have HU:=Hi hU;clear h1 hT hR hP hG hU;go_wp2_with fail
 exact bodyPost_ret (resNd rfl rfl (Blk.put6 H1.out _ _ _ _ _ _) rfl) rfl (q0L hlt HB.out.lt HT.out HR.out HP.out HG.out hr ((q00 HB0.out).trans HU.out))):P:=h
theorem Vl{P:Prop}(h:P:=by
 go_wp2_with fail
 exact ⟨rfl,HEND.out⟩):P:=h
theorem V2n{P:Prop}(h:P:=by
 have hq:((t.k:Int) != 0)=true:=V4;have HHR:=Hi (here w5 w1.heap.size 0 t r' 100 (HP4.out.below hb5));have HN5:=Hi hN5;have HA5:=Hi hA5;have HE5:=Hi hE5;clear hN5 hA5 hE5 hb5;go_wp2_with fail
 refine HHR.out.mono ?_;rintro e w6 ⟨rfl,hb6⟩;have HB6:=Hi hb6;clear hb6;go_wp2_with fail
 refine leaves_cons (f:=100) (args:=#[.pointer (some ⟨g,0,none⟩),.pointer (some ⟨g+1,0,none⟩),.pointer (some ⟨g+2,0,none⟩)]) V3 VM ?_;refine (catch_wrong g t.at_ 100 w6 (HN5.out.below HB6.out HN5.out.lt) (HA5.out.below HB6.out HA5.out.lt) (HE5.out.below HB6.out HE5.out.lt)).mono ?_;rintro e u' w7 ⟨rfl,rfl,hN7,hA7,hE7,hU7⟩;have hu7:Upd (fun k=>g<=k) w w7:=(HU5.out.trans (Upd.of_below HB6.out _)).trans hU7;exact ⟨_,res3 hN7 rfl hA7 hE7 _ rfl rfl rfl,.inr ⟨t.at_,100,rfl,.inr ⟨HER.out,.inr ⟨_,t,r',V29,hk,rfl,rfl⟩⟩,hu7.below (Nat.le_refl _) fun k hk=>V0⟩⟩):P:=h
theorem VR{P:Prop}(h:P:=by
 clear hX hT hR hP hG hU;go_wp2_with fail
 exact bodyPost_ret (resNd rfl rfl (Blk.put6 HX.out _ _ _ _ _ _) rfl) rfl (q0L hlt V0 HT.out HR.out HP.out HG.out hr HU.out)):P:=h
theorem V1e{P:Prop}(h:P:=by
 go_enter Tryz.func53,Tryz.ntmps53;go_wp2_with fail
 all_goals
  refine HT.out.mono ?_;rintro e w1 ⟨rfl,hb1⟩;obtain ⟨b',o,c,n,hn,hl,hc,hm,⟨c0,c1,c2,c3⟩,⟨z0,z1,z2,z3⟩,f4,f5,f6⟩:=(HP.out.below hb1).head;have hlt1:=(HP.out.below hb1).lt;have HB1:=Hi hb1;clear hb1 hn;go_wp2_with fail
  go_ret;exact ⟨rfl,HB1.out.alloc HB1.out.size _⟩):P:=h
theorem Vh{P:Prop}(h:P:=by exact ⟨rfl,HEND.out⟩):P:=h
theorem V2o{P:Prop}(h:P:=by
 rw [hcc];rw [hy] at HX;have HY:=Hi hy;have HCC:=Hi hcc;clear hy hcc;have hw:=wordC y g cap wr hcap HX.out;have HWW:=Hi hw;have HI:=Hi hiN;clear hw hiN hlt hi HN;rcases hi2 with ⟨h1,h2⟩ | ⟨h1,h2⟩
 ·have h3:decide ((i:Int) < 70)=false:=by simp;omega
  have h4:i < n:=V0;clear h1 h2;exact V3g
 ·have h3:decide (i < n)=false:=by simp;omega
  clear h2;exact V3g):P:=h
theorem V1f{P:Prop}(h:P:=by
 rintro e w' ⟨rfl,rfl⟩;go_wp2_with fail
 go_round
 case rel=>exact ⟨j+1,⟨V0,V0⟩,V5,HN⟩
 case measure=>simp [intOf];omega):P:=h
theorem V2p{P:Prop}(h:P:=by
 refine leaves_cons (f:=100) (args:=#[.pointer (some ⟨g,0,none⟩),.pointer (some ⟨g+1,0,none⟩),.pointer (some ⟨g+2,0,none⟩)]) V3 VM ?_;refine (catch_wrong g a er w3 (HN2.out.upd hU V0) (HA2.out.upd hU V0) (HE2.out.upd hU V0)).mono ?_;rintro e u' w4 ⟨rfl,rfl,hN4,hA4,hE4,hU4⟩;have hu4:Upd (fun k=>g<=k) w w4:=(HU2.out.trans (hU.mono fun k hk=>V0)).trans hU4;exact ⟨_,res3 hN4 rfl hA4 hE4 _ rfl rfl rfl,.inr ⟨a,er,rfl,.inr ⟨HER.out,.inl (by rw [HLL.out];exact hR)⟩,hu4.below (Nat.le_refl _) fun k hk=>V0⟩⟩):P:=h
theorem Vm{P:Prop}(h:P:=by (intro w hSw;obtain ⟨y0,y1⟩:=hSw;go_simp;try with_reducible rfl)):P:=h
theorem V2q{P:Prop}(h:P:=by
 have hT5:TIn (fun b=>w.heap.size+1<=b) w5 x (ndC k a s m A la cA B lb cB):=(tup hT (show w.heap.size+1<=w3.heap.size from V0)).upd (Upd.of_below HB5.out fun _=>False) (fun _ _ h=>h);have hA:=ArrT.first (e:=26) hT5 V0;rw [show w5.alloc (.cells (ndC k a s m A la cA B lb cB).toArray 26)=w6 from HW6.out] at hA;have hN:=(hA.upd (Upd.of_below HB67.out fun _=>False) (fun _ h=>h.elim)).node V3 2 t.at_ 0 t.s;rw [hs5] at hN;exact q7u (lo:=w.heap.size+1) hlt (Nat.lt_succ_self _) hN (r_un hd HON.out hR) ((hP.below HB5.out).below HB57.out) hG V4 hU7):P:=h
theorem Vx{P:Prop}(h:P:=by
 go_enter Tryz.func128,Tryz.ntmps128;go_wp2_with fail
 go_ret2
 exact ⟨rfl,rfl⟩):P:=h
theorem Vy{P:Prop}(h:P:=by
 clear hR hU;go_wp2_with fail
 exact ⟨rfl,.inr ⟨_,_,rfl,HR.out,HU.out⟩⟩):P:=h
theorem V2r{P:Prop}(h:P:=by
 generalize FtV (namedL s.data.toList)=V at *;have HW:=Hi hw;have HN:=Hi hn;clear hw hn hW hN;go_enter Tryz.func180,Tryz.ntmps180;go_wp2_with fail
 refine (HW.out _).mono ?_;rintro e w' ⟨rfl,rfl⟩;go_wp2_with fail
 refine (HN.out _).mono ?_;rintro e w' ⟨rfl,rfl⟩;go_wp2_with fail
 refine bodyPost_ret (q33 rfl _ _ w.heap.size _ rfl (loadT (Blk.new _ _ _))) rfl ?_;exact ⟨(congrArg Ending.returned HV.out).symm,(Below.refl _ _).alloc (Nat.le_refl _) _⟩):P:=h
theorem V2s{P:Prop}(h:P:=by
 rintro e w6 ⟨rfl,hb6⟩;have HB6:=Hi (HB5.out.trans (hb6.mono HB5.out.size));have hz6:=hb5.trans (hb6.mono hb5.size);clear hb6;(try dsimp only);refine hK.out _ _ hz6 trivial ?_;clear hK K;(try simp only [HT.pS]);refine HT.done V1 ?_;clear hb5 hz6;go_wp2_with fail
 first | go_end0 | skip
 all_goals (rw [<-show none=res from HRES2.out];first | exact ⟨rfl,HB6.out⟩ | exact bodyPost_ret (results_none rfl _ _ _) rfl ⟨rfl,HB6.out⟩)):P:=h
theorem V09{P:Prop}(h:P:=by exact .inr ⟨ba,er,t5,r5,he,HRD.out _ (q5t HON.out hR5),((hP5.below HBF.out).below HFH.out).far hput fun b hb=>V0⟩):P:=h
theorem V2u{P:Prop}(h:P:=by
 have HN6:=Hi hN6;have HA6:=Hi hA6;have HE6:=Hi hE6;clear hN5 hA5 hE5 hb5 hN6 hA6 hE6 hu6;go_wp2_with fail
 refine leaves_cons (f:=100) (args:=#[.pointer (some ⟨g,0,none⟩),.pointer (some ⟨g+1,0,none⟩),.pointer (some ⟨g+2,0,none⟩)]) V3 VM ?_;refine (catch_idle ⟨g,0,none⟩ ⟨g+1,0,none⟩ ⟨g+2,0,none⟩ _).mono ?_;rintro e u' w7 ⟨rfl,rfl,rfl⟩;exact ⟨_,res3 HN6.out rfl HA6.out HE6.out _ rfl rfl rfl,HEND.out⟩):P:=h
theorem V2{P:Prop}(h:P:=by decide):P:=h
theorem V3{P:Prop}(h:P:=by simp):P:=h
theorem V0{P:Prop}(h:P:=by omega):P:=h
theorem V4{P:Prop}(h:P:=by simp;omega):P:=h
theorem V1{P:Prop}(h:P:=by kernel_rfl):P:=h
theorem V8{P:Prop}(h:P:=by unfold maxLen;omega):P:=h
theorem V9{P:Prop}(h:P:=by have:=HSN.out;omega):P:=h
theorem V7{P:Prop}(h:P:=by intro v hSw;have hA:=HXd.out.below hSw HXd.out.lt;have E_:=Blk.c6 hA;have hga:=hA.lt;clear hSw hA;go_simp;try with_reducible rfl):P:=h
theorem Vn{P:Prop}(h:P:=by intro v hSw;have hA:=HXd.out.below hSw HXd.out.lt;have E_:=Blk.c6 hA;obtain ⟨c1,c2⟩:=HBX.out v (HBd.out.trans (hSw.mono HBd.out.size));clear hSw hA;go_simp;try with_reducible rfl):P:=h
theorem Vi{P:Prop}(h:P:=by intro v hSw;have hA:=HXd.out.below hSw HXd.out.lt;have E_:=Blk.c6 hA;clear hSw hA;go_simp;try with_reducible rfl):P:=h
theorem VH{P:Prop}(h:P:=by intro v hSw;have hA:=HXd.out.upd hSw HNO.out;have hG:=HVd.out.blk.upd hSw HGO.out;have E_:=Blk.c6 hA;have D_:=Blk.c6 hG;clear hSw hA hG;go_simp;try with_reducible rfl):P:=h
theorem Vp{P:Prop}(h:P:=by intro v hSw;have hA:=HXz.out.upd hSw HNV.out;have E_:=Blk.c6 hA;clear hSw hA;go_simp;try with_reducible rfl):P:=h
theorem Vq{P:Prop}(h:P:=by intro v hSw;have hA:=HXd.out.upd hSw HNK.out;have hG:=HVd.out.blk.upd hSw HGK.out;have E_:=Blk.c6 hA;have D_:=Blk.c6 hG;clear hSw hA hG;go_simp;try with_reducible rfl):P:=h
theorem Ve{P:Prop}(h:P:=by rw [<-hw2];exact hb1.alloc hb1.size _):P:=h
theorem Vz{P:Prop}(h:P:=by intro v hSw;have hA:=HEd.out.below hSw HEd.out.lt;obtain ⟨y0,y1,x0,x1⟩:=Blk.c2 hA;have hga:=hA.lt;clear hSw hA;go_simp;try with_reducible rfl):P:=h
theorem V0H{P:Prop}(h:P:=by intro v hSw;have hv1:=HBd0.out.trans (hSw.mono HBd0.out.size);have hc0:=HV0.out v hv1;have hc1:=HV1.out v hv1;have hga:=Nat.lt_of_lt_of_le HBV.out hv1.size;clear hSw hv1;go_simp;try with_reducible rfl):P:=h
theorem V1g{P:Prop}(h:P:=by intro v hSw;have hv1:=HBd0.out.trans (hSw.mono HBd0.out.size);have hc0:=HV0.out v hv1;have hc1:=HV1.out v hv1;have hc2:=HV2.out v hv1;have hga:=Nat.lt_of_lt_of_le HBV.out hv1.size;clear hSw hv1;go_simp;try with_reducible rfl):P:=h
theorem VS{P:Prop}(h:P:=by repeat (first | with_reducible exact HZB.out | with_reducible apply Blk.drew | with_reducible refine Blk.far ?_ hne _)):P:=h
theorem Vo{P:Prop}(h:P:=by intro v hSw;have hA:=HXd.out.upd hSw HNX.out;have E_:=Blk.c6 hA;have hga:=hA.lt;clear hSw hA;go_simp;try with_reducible rfl):P:=h
theorem V2v{P:Prop}(h:P:=by
 intro v' w8 hown hgrow hat;obtain ⟨vA,vc,rfl⟩:=q0l hown;have hs8:Upd (fun b=>vl.ownBlock=some b) wz w8:=hs4.grown hgrow fun b hb _=>hb
 have hz8:Upd (fun b=>vl.ownBlock=some b\/b=G.g) wz w8:=hs8.mono fun b hb=>.inl hb
 have HEND:=Hi (HFIN.out vA vc w8 hs8 hown hat);(try dsimp only);refine hK.out _ _ hz8 hs8 ?_;clear hK K;(try simp only [HT.pS]);refine HT.tm 8 rfl hz8 (fun _=>hs8) ?_;refine HT.tm 9 rfl hz8 (fun _=>hs8) ?_;have hG8:=HGz.out.blk.upd hs8 HGV.out;obtain ⟨c0,c1,c2,c3,c4,c5,c6⟩:=Blk.c7 hG8;have fz:=hG8.frozen 2;have hg8:=hG8.lt;refine HT.oneS (i:=10) V1 V1 rfl (fun K hK=>?_);go_simp;refine hK.out _ _ (hz8.setCell (p:=⟨G.g,2,none⟩) (fun _=>.inr rfl) _) ?_;clear hK K;(try simp only [HT.pS]);refine HT.done V1 ?_;clear hown hat hgrow hs8 hz8 hG8 hz4 hs4 hw4 hb4 hL4 ho4 c0 c1 c2 c3 c4 c5 c6 fz hg8 hZ0 hS0;exact Vd):P:=h
theorem V0a{P:Prop}(h:P:=by
 have HON:=Hi hon;clear hk4 hon;go_wp2_with fail
 refine (tok wr bp 0 0 v r' HQ.out).mono ?_;rintro e wb ⟨rfl,hbb⟩;have HBB:=Hi hbb;have halb:=hbb.size;clear hbb c0 c1 c2 c3 z0 z1 z2 z3 f4 f5 f6;exact V2i):P:=h
theorem V2w{P:Prop}(h:P:=by
 go_wp2_with fail
 have hZ0:Upd (fun b=>b=kb) wy wy:=Upd.refl _ _;refine HT.wp_region (Z:=fun w'=>Upd (fun b=>b=kb) wy w') (S:=fun _=>True) (st:=[]) V1 ?_;rw [hwd];clear hwd;refine HT.m 0 hZ0 ?_;refine HT.m 1 hZ0 ?_;refine HT.m 2 hZ0 ?_;refine HT.k 3 rfl (by intro v hSw;have hA:=HYB.out.upd hSw HNB.out;obtain ⟨c0,c1,c2,c3,c4,c5,c6⟩:=Blk.c7 hA;have hga:=hA.lt;clear hSw hA;go_simp;try with_reducible rfl) hZ0 ?_;refine HT.m 4 hZ0 ?_;refine HT.k 5 rfl (by intro v hSw;have hA:=HYX.out.upd hSw HNX.out;obtain ⟨d0,d1,d2,f0,f1,f2⟩:=Blk.c3 hA;have hga:=hA.lt;clear hSw hA;go_simp;try with_reducible rfl) hZ0 ?_;refine HT.one (i:=6) V1 rfl (fun K hK=>?_);go_simp;(try dsimp only);refine hK.out _ _ hz7 trivial ?_;clear hK K;(try simp only [HT.pS]);refine HT.done V1 ?_;clear hZ0 hz7 hrun;exact Vd):P:=h
theorem V2x{P:Prop}(h:P:=by
 intro e w4 h4;cases res with
 | bad a2 er2=>
  obtain ⟨rfl,hu4⟩:=h4;have HEND:=Hi (show SP w0 w G vl fu k0 m c.rd cost (.bad a2 er2) (panF a2 er2) w4 from ⟨rfl,(Upd.of_below HBN.out _).trans (hu4.mono fun b hb=>hb.elim .inl fun h=>.inr (.inr (.inr h)))⟩);exact VP
 | ok d=>
  obtain ⟨rfl,vl4,hG4,hn4,hu4⟩:=h4;have HEND:=Hi (show SP w0 w G vl fu k0 m c.rd cost (.ok d) (.returned (.tuple #[])) w4 from by
   have hnb:=HNB.out;have hrd:d.rd=c.rd:=HRDQ.out d rfl;refine ⟨rfl,vl4,fm,m+1,hG4,?_,(Upd.of_below HBN.out _).trans (hu4.mono fun b hb=>hb.elim .inl fun h=>.inr (.inr (.inr h))),by rw [hrd];omega,by rw [hrd];exact Nat.le_refl _⟩;rcases hn4 with h | ⟨n,h3,h7⟩
   ·exact .inl h
   ·exact .inr ⟨n,Nat.le_trans HBN.out.size h3,h7⟩)
  clear hG4 hn4 hu4;exact Vd):P:=h
theorem V2y{P:Prop}(h:P:=by
 clear hTy hbl hy hq;generalize canB (lkR r) y=cy at HC HQ2;go_wp2_with fail
 refine (show Calls Tryz.prog 40 #[.pointer (some ⟨g,0,none⟩),nzA k' a' s' n' A' la' cA' B' lb' cB'] wr _ from HC.out).mono ?_;rintro e w4 ⟨rfl,hb4⟩;have N1:=Hi (HBr.out.trans (hb4.mono HBr.out.size));have N2:=Hi (H0r.out.trans (hb4.mono H0r.out.size));have N3:=Hi (HXr.out.below hb4 HXr.out.lt);clear hb4 e0 e1 e2 e3 e4 e5 z0 z1 z2 z3 z4 z5 hgl g0' g1 g2 g3 g4 g5 hbl2;cases cy with
 | false=>
  have HR2:=Hi (show false=res from HQ2.out);go_wp2_with fail
  go_ret;exact ⟨V16,N1.out⟩
 | true=>
  have HQ3:=Hi (show canBs (lkR r) (l.drop (i+1))=res from HQ2.out);go_wp2_with fail
  go_roundw
  case rel=>exact ⟨i+1,V0,V5,N1,N2,N3,HQ3⟩
  case measure=>simp [intOf];omega):P:=h
theorem V0b{P:Prop}(h:P:=by
 obtain ⟨rfl,hc1,hu1⟩:=h1;have HEND:=Hi (show StatP N lo w g (.ok d) m' (.returned (.tuple #[])) w1 from ⟨rfl,q2f (q1v hc1 (Nat.le_refl _)) V9,q0i HU0.out hu1 V9⟩);clear hc1 hu1;exact Vd):P:=h
theorem V0c{P:Prop}(h:P:=by
 obtain ⟨rfl,hu1⟩:=h1;have HEND:=Hi (show StatP N lo w g (.bad a1) m' (panW a1) w1 from ⟨rfl,q0i HU0.out hu1 V9⟩);clear hu1;exact Vl):P:=h
theorem VA{P:Prop}(h:P:=by
 generalize wordB s.data.toList=b at *;go_enter Tryz.func201,Tryz.ntmps201;exact VQ):P:=h
theorem V0d{P:Prop}(h:P:=by
 have HIN:=Hi hin;clear hbb hin;go_wp2_with fail
 refine HIN.out.mono ?_;rintro e w' ⟨rfl,rfl⟩;exact V2i):P:=h
theorem V2A{P:Prop}(h:P:=by
 refine q0x rfl (.tmp 31) (.tmp 33) 44 rfl (g+1) 22 j0 (.int .u32 0) 1 4 Tryz.underlying44 HJ.out HY0.out HY1.out HY2.out rfl V2 v2 r.length _ rfl hR8.r2 (some ⟨p14,0,none⟩) 1 1 [uV x] rfl rfl hL14' Vt V8 V0 hR8.le ?_;intro u2 W15 hown2 hgrow2 hat2;obtain ⟨A2,c2,rfl⟩:=q0l hown2;have hS15:Upd (g < ·) wd W15:=hR8.blk2 hS8 hg1 hgrow2;have hR15:=hR8.app2 hown2 hgrow2 hat2;exact V2j):P:=h
theorem V1h{P:Prop}(h:P:=by
 obtain ⟨rfl,hb2⟩:=h2;have HEND:=Hi (show StatP N lo w g res (m+1) (panW a1) w2 from V3M);clear hb2;exact Vl):P:=h
theorem VT{P:Prop}(h:P:=by
 rintro e w' ⟨rfl,rfl⟩;go_wp2_with fail
 go_ret;exact ⟨rfl,rfl⟩):P:=h
theorem V0I{P:Prop}(h:P:=by
 go_wp2_with fail
 go_round
 case rel=>exact ⟨k+1,V0,V5,HN⟩
 case measure=>simp [intOf];omega):P:=h
theorem V2C{P:Prop}(h:P:=by
 rintro e w5 ⟨rfl,hb5⟩;(try dsimp only);refine hK.out _ _ hb5 trivial ?_;clear hK K;(try simp only [HT.pS]);refine HT.m 11 hb5 ?_;refine HT.m 12 hb5 ?_;refine HT.m 13 hb5 ?_;refine HT.m 14 hb5 ?_;refine HT.m 15 hb5 ?_;refine HT.done V1 ?_;have HEND:=Hi (HBd.out.trans (hb5.mono HBd.out.size));clear hZ0 hb5;rw [HR.out];go_wp2_with fail
 go_ret;exact Vh):P:=h
theorem V2D{P:Prop}(h:P:=by
 go_wp2_with fail
 refine (show Calls Tryz.prog 77 #[.slice A l.length cA,.func (.func 78) #[] #[.pointer (some ⟨w.heap.size,0,none⟩),.pointer (some ⟨w.heap.size+2,0,none⟩)]] w1 _ from HCF.out w1 (Below.refl _ _)).mono ?_;rintro e w9 ⟨rfl,hb9⟩;have HB9:=Hi (HB1.out.trans (hb9.mono HB1.out.size));clear hb9;go_wp2_with fail
 go_ret;exact ⟨VL,HB9.out⟩):P:=h
theorem V0e{P:Prop}(h:P:=by
 clear hb5;go_wp2_with fail
 go_ret;exact ⟨rfl,HB5.out⟩):P:=h
theorem V1i{P:Prop}(h:P:=by
 have h:=(hp.deep (d+1)).below ((Below.refl _ _).alloc (Nat.le_refl _) (.cells #[.int .i64 0,.string ⟨#[]⟩,.int .u32 0,.int .i64 0,.slice none 0 0,.slice none 0 0] 26));rw [<-hw0];exact_mod_cast h):P:=h
theorem V2E{P:Prop}(h:P:=by
 clear hb4 hL4;go_wp2_with fail
 refine HRX.out.mono ?_;rintro e w5 hp;have HB5:=Hi (HB4.out.trans (hp.1.mono HB4.out.size));obtain rfl:=HSM.out _ _ _ hp;have HLW:=Hi (HLV.out w5);clear hp;go_wp2_with fail
 refine HLW.out.mono ?_;rintro e w6 ⟨rfl,hb6⟩;have HEND:=Hi (HB5.out.trans (hb6.mono HB5.out.size));clear hb6;go_wp2_with fail
 go_ret;exact Vh):P:=h
theorem V2F{P:Prop}(h:P:=by
 rw [HQ.out.me];rcases HO.out with ⟨y,r5,hT5,hR5,hP5,hG5,hr5⟩ | ⟨ba,er,t5,r5,he,hR5,hP5⟩
 ·have h9:=(((hP5.below HBF.out).below HFH.out).far hput fun b hb=>V0).me;refine Nat.lt_of_le_of_lt (Nat.le_of_eq h9) ?_;simp;omega
 ·have h9:=(((hP5.below HBF.out).below HFH.out).far hput fun b hb=>V0).me0 he;refine Nat.lt_of_le_of_lt (Nat.le_of_eq h9) ?_;simp):P:=h
theorem V1j{P:Prop}(h:P:=by
 have e:((res.toNat:Nat):Int)=(n:Int):=by rw [<-HR.out,BitVec.toNat_ofNat,Nat.mod_eq_of_lt HN32.out]
 show Ending.returned (.int .u32 (n:Int)) = .returned (.int .u32 (res.toNat:Int));rw [e]):P:=h
theorem VI{P:Prop}(h:P:=by (intro w hSw;obtain ⟨y0,y1,y2⟩:=hSw;go_simp;try with_reducible rfl)):P:=h
theorem V2G{P:Prop}(h:P:=by
 rintro e w7 ⟨rfl,hb7⟩;have hz7:=hz6.trans (hb7.mono hz6.size);rw [HR.out];(try dsimp only);refine hK.out _ _ hz7 trivial ?_;clear hK K;(try simp only [HT.pS]);refine HT.m 15 hz7 ?_;refine HT.done V1 ?_;have HEND:=Hi (HBd.out.trans (hz7.mono HBd.out.size));clear hZ0 hb5 hz7 hb7 hz6 hb6;go_wp2_with fail
 go_ret;exact Vh):P:=h
theorem V1k{P:Prop}(h:P:=by
 go_wp2_with fail
 go_ret;exact ⟨rfl,rfl⟩):P:=h
theorem V2H{P:Prop}(h:P:=by
 have hr:l.contains a=false:=by
  cases h:l.contains a with
  | false=>rfl
  | true=>
   obtain ⟨j,hj⟩:=List.getElem?_of_mem (List.contains_iff_mem.1 h);have hjl:=(List.getElem?_eq_some_iff.1 hj).1;exact absurd hj (HQ.out j V0)
 have HR:=Hi hr;clear hr;go_wp2_with fail
 go_ret;exact ⟨_,rfl,by rw [HR.out];simp,HH.out⟩):P:=h
theorem V2I{P:Prop}(h:P:=by
 clear hI HI;by_cases hl:n < 4294967296
 ·rw [if_neg V0] at hfin;exact V45
 ·have:n = 4294967296:=by omega
  subst this;rw [if_pos rfl] at hfin;exact V45):P:=h
theorem VU{P:Prop}(h:P:=by
 go_wp2_with fail
 go_ret;exact ⟨V16,HB1.out⟩):P:=h
theorem V1l{P:Prop}(h:P:=by
 go_wp2_with fail
 go_ret;exact Vh):P:=h
theorem V2J{P:Prop}(h:P:=by
 have HN:=Hi hN;clear hX hN hu hT hb h2;go_wp2_with fail
 exact bodyPost_ret (v:=.tuple #[.agg #[.int .i64 (k:Int),.string ⟨sx.toArray⟩,.int .u32 (n:Int),.int .i64 (a:Int),.slice A la cA,.slice B lb cB],.int .i64 0,.int .i64 0]) (q1l rfl _ _ rfl HN.out rfl rfl rfl) rfl HEND.out):P:=h
theorem V2K{P:Prop}(h:P:=by
 rw [ho,if_neg V2] at hq;rw [ho] at hc;have HK:=Hi hc;have HN:=Hi (show R=k from V0);have hkR:R<=k:=V0;clear hd hq hc ho HQ;go_wp2_with fail
 refine (HK.out _).mono ?_;rintro e w' ⟨rfl,rfl⟩;go_wp2_with fail
 go_ret;exact ⟨by rw [HN.out] <;> rfl,rfl⟩):P:=h
theorem V2L{P:Prop}(h:P:=by
 have HN:=Hi hN;clear hX hN hu hb hbad;go_wp2_with fail
 exact bodyPost_ret (v:=.tuple #[.agg #[.int .i64 0,.string ⟨#[]⟩,.int .u32 0,.int .i64 0,.slice none 0 0,.slice none 0 0],.int .i64 (a:Int),.int .i64 (er:Int)]) (q1l rfl _ _ rfl HN.out rfl rfl rfl) rfl HEND.out):P:=h
theorem V1m{P:Prop}(h:P:=by
 have HR:=Hi hR;have HU:=Hi hU;clear hR hU;go_wp2_with fail
 exact ⟨rfl,.inr ⟨a,er,rfl,HR.out,(q00 HB0.out).trans HU.out⟩⟩):P:=h
theorem V0f{P:Prop}(h:P:=by exact .inr ⟨ba,er,v,r',he,q2P V2 hR,(hP.below HB2.out).below hb3⟩):P:=h
theorem V1n{P:Prop}(h:P:=by
 have HR:=Hi hR;have HU:=Hi (HU0.out.trans hU);clear hR hU;go_wp2_with fail
 exact ⟨rfl,.inr ⟨a,er,rfl,HR.out,HU.out⟩⟩):P:=h
theorem V2M{P:Prop}(h:P:=by
 show TIn N w (.mk k1 a' s1 n1 ps l) _;unfold TIn at h ⊢;obtain ⟨A1,cA1,B1,cB1,h1,h2⟩:=h;refine ⟨A1,cA1,B1,cB1,?_,h2⟩;unfold ndC at h1 ⊢;simp only [List.cons.injEq] at h1 ⊢;exact ⟨h1.1,h1.2.1,h1.2.2.1,trivial,h1.2.2.2.2⟩):P:=h
theorem V2N{P:Prop}(h:P:=by
 clear hbits hsz;have HCC:=Hi hcc;clear hcc;go_wp2_with fail
 go_roundw
 case rel=>exact ⟨i+1,wo.heap.size,32,by have:=HLT.out;omega,V5,congrArg Value.bool HCC.out.symm,rfl,V2,V2,hlt2,HFIN,HBB⟩
 case measure=>simp [intOf];omega):P:=h
theorem VB{P:Prop}(h:P:=by
 go_wp2_with fail
 go_ret;exact HEND.out):P:=h
theorem V0g{P:Prop}(h:P:=by (intro w hSw;(try dsimp only at hSw);go_simp;try with_reducible rfl)):P:=h
theorem V1o{P:Prop}(h:P:=by
 go_wp2
 go_ret2
 exact ⟨V3V,m,rfl⟩):P:=h
theorem V1p{P:Prop}(h:P:=by
 go_wp2
 go_ret2
 exact ⟨V3U,m,rfl⟩):P:=h
theorem V2O{P:Prop}(h:P:=by
 subst hji;refine hy.wpOp hi hZ ⟨⟨hZ,fun hx=>hS fun s hs=>?_⟩,H⟩;have:=hx s hs;rw [Array.getD_eq_getD_getElem?,Array.getElem?_setIfInBounds_ne (by rintro rfl;exact hist hs),<-Array.getD_eq_getD_getElem?] at this;exact this):P:=h
theorem V2P{P:Prop}(h:P:=by
 gi_wp2
 refine ⟨V3,.inl ⟨_,_,rfl,run_takeDeferred HK.out,?_⟩⟩;rw [HV.out];exact ⟨_,q1b rfl _ _ (w.heap.size+1) (w.heap.size+1+1) _ _ rfl rfl (loadT HT.out) (q03 (isAggE _) (HE.out.cell 0)),rfl,HB.out⟩):P:=h
theorem V2Q{P:Prop}(h:P:=by
 generalize dvN D[k].toNat=d at hdc hdl hd;have HF:=Hi hfin;have HDC:=Hi hdc;clear hst hdc hfin;go_wp2_with (go_at_call 214;refine (HDC.out _).mono ?_;rintro e w' ⟨rfl,rfl⟩)
 go_ret2
 exact ⟨by rw [HF.out];rfl,rfl⟩):P:=h
theorem V2R{P:Prop}(h:P:=by
 obtain rfl:i=l.length:=by omega
 have hq:=HQr.out;rw [List.drop_length] at hq;have HR2:=Hi (show true=res by rw [<-hq];unfold canBs;rfl);clear hq;go_wp2_with fail
 go_ret;exact ⟨V16,HBr.out⟩):P:=h
theorem V2S{P:Prop}(h:P:=by
 refine ⟨b,o,c,hbl,?_,hu12.lies HLI.out fun b' o' e _ hx=>?_,hc1,hc2⟩
 ·rw [<-hw2,<-hs12];exact Blk.new _ _ _
 ·cases e;rcases hx with hx | hx
  ·exact q8S HA1.out hcc1 hx
  ·exact q8S HE1.out hcc1 hx):P:=h
theorem V1q{P:Prop}(h:P:=by
 rintro e w1 ⟨rfl,hb1⟩;have HB1:=Hi hb1;clear hb1;go_wp2_with fail
 go_ret2
 exact ⟨rfl,HB1.out⟩):P:=h
theorem V1r{P:Prop}(h:P:=by
 rcases hb with (h | h) | h
 ·exact .inl h.1
 ·exact .inr V9
 ·exact .inr (by have:=HUz.out.size;omega)):P:=h
theorem V2T{P:Prop}(h:P:=by
 clear hX hT hR hP hG hU;go_wp2_with fail
 exact bodyPost_ret (resNd rfl rfl (Blk.put6 HX.out _ _ _ _ _ _) rfl) rfl (q0L hlt V0 HT.out HR.out HP.out HG.out VD HU.out)):P:=h
theorem V0J{P:Prop}(h:P:=by
 go_wp2_with fail
 go_ret2
 exact ⟨V04,HB6.out⟩):P:=h
theorem V4B{P:Prop}(h:P:=by
 go_wp2_with fail
 go_ret;exact ⟨_,rfl,by rw [HR.out];simp,HH.out⟩):P:=h
theorem V2U{P:Prop}(h:P:=by
 obtain ⟨rfl,hu1⟩:=h1;have HEND:=Hi (show StatP N lo w g res (m+ps.length) (panW a1) w1 from by rw [<-HRES.out];exact ⟨rfl,q0i HU0.out hu1 V9⟩);clear hu1;exact Vl):P:=h
theorem V2V{P:Prop}(h:P:=by
 have h1:=hall e he hb;rw [heq] at h1;rcases Nat.lt_or_ge i listed.size with h' | h'
 ·simp [h'] at hiun h1;rw [hiun] at h1;cases h1
 ·simp [Array.getElem?_eq_none h'] at h1):P:=h
theorem V2W{P:Prop}(h:P:=by
 go_wp2_with fail
 go_ret;exact ⟨by rw [HN.out] <;> rfl,rfl⟩):P:=h
theorem V0L{P:Prop}(h:P:=by
 go_wp2_with fail
 go_ret;exact ⟨by rw [HE.out] <;> rfl,rfl⟩):P:=h
theorem V1s{P:Prop}(h:P:=by
 go_enter Tryz.func214,Tryz.ntmps214
 go_wp2
 go_ret;exact ⟨by rw [HD.out];go_num,rfl⟩):P:=h
theorem V2X{P:Prop}(h:P:=by
 clear hd hq1 HJ;clear hlj hnj hlb hnb;go_wp2_with fail
 refine (HLJ.out _).mono ?_;rintro e w' ⟨rfl,rfl⟩;go_wp2_with fail
 refine (HNJ.out _).mono ?_;exact V1f):P:=h
theorem V2Y{P:Prop}(h:P:=by
 go_wp2
 go_roundw
 case rel=>exact ⟨k+1,4294967296,q,V0,V0,V5,rfl,rfl,V0,Hi (by rw [HI.out,HS'.out,Nat.min_eq_right hbig]),rfl⟩
 case measure=>simp [intOf];omega):P:=h
theorem V2Z{P:Prop}(h:P:=by exact q3D (c:=tw r) (fun ps r1 h1=>q0D fun r2 h2=>ct_ok (by simp only [baseN,q0W,q2l,q3E,List.length_nil];omega) fun h=>h.elim) [] r V0W):P:=h
theorem V30{P:Prop}(h:P:=by
 rcases HHC.out with ⟨h,_⟩ | ⟨h,_⟩ | ⟨h,_⟩ | ⟨h,_⟩ | ⟨_,_,h⟩ | ⟨h,_⟩
 ·cases h
 ·cases h
 ·cases h
 ·cases h
 ·exact q1u h
 ·cases h):P:=h
theorem V31{P:Prop}(h:P:=by
 rintro e w7 ⟨rfl,hb7⟩;have HB7:=Hi (HB6.out.trans (hb7.mono HB6.out.size));clear hb7;go_wp2_with fail
 go_ret2
 exact ⟨V04,HB7.out⟩):P:=h
theorem V32{P:Prop}(h:P:=by
 rintro e w6 ⟨rfl,hb6⟩;have HB6:=Hi (HB5.out.trans (hb6.mono HB5.out.size));clear hb6;rw [<-show some a=res from HRES2.out];exact ⟨rfl,rfl,HB6.out⟩):P:=h
theorem V33{P:Prop}(h:P:=by
 subst e;rw [if_pos rfl];refine ⟨Maps.has_put_same h1.isMap (isKeyS _) _,fun m' hm' z=>?_⟩;cases hm';exact Maps.atKey_put_same h1.isMap (isKeyS _) _ _):P:=h
theorem V34{P:Prop}(h:P:=by
 by_cases hjk:j=k
 ·subst hjk;exact hjun
 ·rw [Array.getD_eq_getD_getElem?,Array.getElem?_setIfInBounds_ne hjk,<-Array.getD_eq_getD_getElem?] at hun;exact hun):P:=h
theorem Vc{P:Prop}(h:P:=by simp at h):P:=h
theorem VV{P:Prop}(h:P:=by rw [List.length_take];omega):P:=h
theorem Vf{P:Prop}(h:P:=by simpa using hx):P:=h
theorem Vr{P:Prop}(h:P:=by rw [hb];simp;omega):P:=h
theorem V5{P:Prop}(h:P:=by go_num):P:=h
theorem Vk{P:Prop}(h:P:=by simpa using h):P:=h
theorem Vs{P:Prop}(h:P:=by rw [List.getElem?_map,hp];rfl):P:=h
theorem V0h{P:Prop}(h:P:=by rw [<-HRES.out,if_neg V2,if_pos rfl]):P:=h
theorem V1t{P:Prop}(h:P:=by intro v hSw;have hbv:=HB0d.out.trans (hSw.mono HB0d.out.size);obtain ⟨g0,g1,g2,g3,g4,g5⟩:=HX0.out v hbv;have hgb:=Nat.lt_of_lt_of_le HLB.out hbv.size;clear hSw hbv;go_simp;try with_reducible rfl):P:=h
theorem V35{P:Prop}(h:P:=by intro v hSw;have hbv:=HB0d.out.trans (hSw.mono HB0d.out.size);obtain ⟨g0,g1,g2,g3,g4,g5⟩:=HX1.out v hbv;have hgb:=Nat.lt_of_lt_of_le HLB.out hbv.size;clear hSw hbv;go_simp;try with_reducible rfl):P:=h
theorem VC{P:Prop}(h:P:=by have:=HM.out;omega):P:=h
theorem V1u{P:Prop}(h:P:=by intro v hSw;have hG:=HVz.out.blk.upd hSw HGV.out;have D_:=Blk.c6 hG;clear hSw hG;go_simp;try with_reducible rfl):P:=h
theorem V36{P:Prop}(h:P:=by rw [<-HQ2.out];exact ⟨rfl,q01 (q01 HUd.out (Upd.of_below hb5 fun _=>False) fun _ h=>h.elim) (Upd.of_below hb6 fun _=>False) fun _ h=>h.elim⟩):P:=h
theorem V0M{P:Prop}(h:P:=by intro v hSw;have hA:=HXd.out.upd hSw HNM.out;have E_:=Blk.c6 hA;clear hSw hA;go_simp;try with_reducible rfl):P:=h
theorem V0N{P:Prop}(h:P:=by rw [<-hw3];exact (Below.refl _ _).alloc (Nat.le_refl _) _):P:=h
theorem Va{P:Prop}(h:P:=by cases e;omega):P:=h
theorem Vt{P:Prop}(h:P:=by simp [Value.oneCell']):P:=h
theorem V0O{P:Prop}(h:P:=by have:=q0n (k:=k) (a:=a) (n:=n) (s:=s) (ps:=ps) hy;omega):P:=h
theorem V1v{P:Prop}(h:P:=by intro v hSw;have hA:=HRd.out.below hSw HRd.out.lt;obtain ⟨r0,r1,r2,f0,f1,f2⟩:=Blk.c3 (show Blk v (w.heap.size+2) 22 #[uV x2,uV y2,uV z2] from hA);have hga:=hA.lt;clear hSw hA;go_simp;try with_reducible rfl):P:=h
theorem V37{P:Prop}(h:P:=by intro v hSw;have hA:=HXd.out.upd hSw (Nat.lt_irrefl _);have E_:=Blk.c6 hA;have hga:=hA.lt;clear hSw hA;go_simp;try with_reducible rfl):P:=h
theorem V1w{P:Prop}(h:P:=by rw [<-hw0];exact ((Upd.refl (fun b=>b=bp) w).setCell (fun _=>rfl) _).alloc _):P:=h
theorem Vg{P:Prop}(h:P:=by rw [hr2];simp):P:=h
theorem Vj{P:Prop}(h:P:=by rw [hi,hs];decide):P:=h
theorem VD{P:Prop}(h:P:=by simp only [List.length_cons];omega):P:=h
theorem V38{P:Prop}(h:P:=by rw [<-hw2];exact q0f (((HB1.out.setCell (p:=⟨g+1,0,none⟩) (by show w.heap.size<=g+1;omega) _).setCell (p:=⟨g+2,0,none⟩) (by show w.heap.size<=g+2;omega) _)) 1):P:=h
theorem V39{P:Prop}(h:P:=by rw [<-hw2];exact (((Upd.refl (fun k=>k=g+1\/k=g+2) w1).setCell (p:=⟨g+1,0,none⟩) (fun _=>.inl rfl) _).setCell (p:=⟨g+2,0,none⟩) (fun _=>.inr rfl) _).alloc _):P:=h
theorem VJ{P:Prop}(h:P:=by obtain ⟨t3,r3,h3⟩:=hgr.cons;rw [h3];simp):P:=h
theorem V0i{P:Prop}(h:P:=by simp only [List.length_cons] at hl hl';omega):P:=h
theorem V0j{P:Prop}(h:P:=by simp only [List.length_cons] at hl' ⊢;omega):P:=h
theorem VW{P:Prop}(h:P:=by rw [<-hS];exact HX.out.set 1 (.string ⟨S.toArray⟩)):P:=h
theorem V3a{P:Prop}(h:P:=by intro v hSw;have hA:=HRd.out.upd hSw hgm;obtain ⟨⟨r0,r1,r2,r3,r4,r5,r6⟩,q0,q1,q2,q3,q4,q5,q6⟩:=Blk.c7 hA;have hga:=hA.lt;clear hSw hA;go_simp;try with_reducible rfl):P:=h
theorem V1x{P:Prop}(h:P:=by intro v hSw;have hA:=HRd.out.below hSw HRd.out.lt;obtain ⟨⟨r0,r1,r2,r3,r4,r5,r6⟩,q0,q1,q2,q3,q4,q5,q6⟩:=Blk.c7 hA;have hga:=hA.lt;clear hSw hA;go_simp;try with_reducible rfl):P:=h
theorem VX{P:Prop}(h:P:=by show ¬ l5 < _;have:=HSD.out;omega):P:=h
theorem V3b{P:Prop}(h:P:=by intro v hSw;have hG:=HGz.out.blk.upd hSw HGV.out;obtain ⟨c0,c1,c2,c3,c4,c5,c6⟩:=Blk.c7 hG;have hga:=hG.lt;clear hSw hG;go_simp;try with_reducible rfl):P:=h
theorem V3c{P:Prop}(h:P:=by intro v hSw;have hA:=HLz.out.upd hSw HNL.out;obtain ⟨d0,d1,d2,f0,f1,f2⟩:=fst3 hA;have hga:=hA.lt;clear hSw hA;go_simp;try with_reducible rfl):P:=h
theorem V3d{P:Prop}(h:P:=by intro v hSw;have hA:=HGy.out.blk.upd hSw HNG.out;obtain ⟨q0,q1,q2,q3,q4,q5,q6⟩:=Blk.c7 hA;have hga:=hA.lt;clear hSw hA;go_simp;try with_reducible rfl):P:=h
theorem V0P{P:Prop}(h:P:=by intro v hSw;have hA:=HXd.out.upd hSw HN.out;obtain ⟨d0,d1,f0,f1⟩:=q7o hA;have hga:=hA.lt;clear hSw hA;go_simp;try with_reducible rfl):P:=h
theorem V1y{P:Prop}(h:P:=by
 refine HT.done V1 ?_;have HEND:=Hi (HBd.out.trans (hz9.mono HBd.out.size));clear hZ0 hz9 h9;exact V1l):P:=h
theorem V3e{P:Prop}(h:P:=by
 clear hlt hb' hw hrn hcs hl hL h0 hA;go_enter Tryz.func202,Tryz.ntmps202;go_wp2_with fail
 refine HL.out.mono ?_;rintro e w' ⟨rfl,rfl⟩;go_wp2_with fail
 refine HR.out.mono ?_;exact VT):P:=h
theorem V1z{P:Prop}(h:P:=by
 rintro e w5 ⟨rfl,hb5⟩;have HB5:=Hi (HB1.out.trans (hb5.mono HB1.out.size));exact V0e):P:=h
theorem V1A{P:Prop}(h:P:=by rw [l5,if_neg V0,if_neg (by rw [(par_k ht).1];decide),if_neg (par_k ht).2,if_pos ht]):P:=h
theorem V3f{P:Prop}(h:P:=by
 induction S with
 | nil=>rfl
 | cons c r ih=>
  rw [q0g];split
  ·rename_i hc;rw [List.take_succ_cons,List.all_cons,hc,ih];rfl
  ·rfl):P:=h
theorem V3g{P:Prop}(h:P:=by
 go_wp2_with fail
 refine HWW.out.mono ?_;rintro e w' ⟨rfl,rfl⟩;go_wp2_with fail
 go_ret2
 exact ⟨by rw [HI.out,HY.out,HCC.out];rfl,HB.out⟩):P:=h
theorem V0k{P:Prop}(h:P:=by
 go_enter Tryz.func179,Tryz.ntmps179;exact VQ):P:=h
theorem V1B{P:Prop}(h:P:=by
 clear hR hU;go_wp2_with fail
 exact ⟨rfl,.inr ⟨_,_,rfl,HR.out,HU3.out⟩⟩):P:=h
theorem V3h{P:Prop}(h:P:=by
 rintro e w2 ⟨rfl,hb2⟩;have HB2:=Hi (HB1.out.trans (hb2.mono HB1.out.size));clear hb2;go_wp2_with fail
 exact ⟨rfl,rfl,q00 HB2.out⟩):P:=h
theorem V1C{P:Prop}(h:P:=by
 rintro e w' ⟨rfl,rfl⟩;go_wp2_with fail
 go_ret3
 exact HL.out _ HBE.out):P:=h
theorem V1D{P:Prop}(h:P:=by
 rintro e w1 ⟨rfl,rfl⟩;go_wp2_with fail
 go_ret;exact ⟨rfl,HB.out⟩):P:=h
theorem V0l{P:Prop}(h:P:=by
 go_enter Tryz.func49,Tryz.ntmps49;exact VQ):P:=h
theorem V3i{P:Prop}(h:P:=by
 have hg:g < w.heap.size:=(Array.getElem?_eq_some_iff.1 h4).1;exact .inr ⟨g,cap,cur,e1,h3,(hu.block _ hg (hX g (by rw [e1];rfl))).trans h4,h5⟩):P:=h
theorem V1E{P:Prop}(h:P:=by simp [signs2,signs1,List.isPrefixOf,List.find?,ha,ha']):P:=h
theorem V1F{P:Prop}(h:P:=by
 rcases h with h | h
 ·exact Nat.lt_irrefl _ h.2
 ·have:=HSN.out;omega):P:=h
theorem V3j{P:Prop}(h:P:=by exact ⟨(Maps.has_del_other (q1V e)).trans (h2 t ht).1,fun m' hm' z=>(Maps.atKey_del_other (q1V e) _).trans ((h2 t ht).2 m' hm' z)⟩):P:=h
theorem V3k{P:Prop}(h:P:=by
 rcases h with h | h | h | h
 ·have h':b=g0+7:=h;omega
 ·have h':b=g0+4:=h;omega
 ·have h':b=g0+5:=h;omega
 ·cases h):P:=h
theorem V3l{P:Prop}(h:P:=by
 obtain ⟨c1,h1,h2⟩:=q2n h;cases h2;exact ⟨(q3l h1).1.trans (Ext.same rfl rfl),(show Sorts c1.kn from q3P h1 hs)⟩):P:=h
theorem V3m{P:Prop}(h:P:=by
 subst hpa;have HR:=Hi (show l.contains a=true from List.contains_iff_mem.2 (List.mem_of_getElem? hp));clear hc1 f1 hp;exact V4B):P:=h
theorem V3n{P:Prop}(h:P:=by
 have h:=HCK.out;rw [if_neg V2,if_neg V2,if_pos rfl,Bool.and_eq_true] at h;exact ⟨of_decide_eq_true h.1,of_decide_eq_true h.2⟩):P:=h
theorem V3p{P:Prop}(h:P:=by
 clear hk;go_enter Tryz.func182,Tryz.ntmps182;go_wp2_with fail
 refine (HL.out _).mono ?_;rintro e w' ⟨rfl,rfl⟩;exact VQ):P:=h
theorem V3q{P:Prop}(h:P:=by
 show ((c.kn.put s v) t).isSome=true;unfold Kw.put;by_cases e:t=s
 ·rw [if_pos e];rfl
 ·rw [if_neg e];exact HGd.out.dom t ht):P:=h
theorem V3r{P:Prop}(h:P:=by
 rw [if_neg V0,if_neg V0];obtain ⟨c1,h1,h2⟩:=q2n h;cases h2;exact ⟨show Jf c1.kn fu from Jf.in_ h1 hj,Kf.refl _ _⟩):P:=h
theorem V3s{P:Prop}(h:P:=by
 clear hc1 f1 hp hpa;go_wp2_with fail
 go_roundw
 case rel=>exact ⟨i+1,V0,V5,HH,HN⟩
 case measure=>simp [intOf];omega):P:=h
theorem V3t{P:Prop}(h:P:=by
 go_wp2_with fail
 go_roundw
 case rel=>exact ⟨j+1,V0,V5,Hi (HW.out.next _ HNB.out)⟩
 case measure=>simp [intOf];omega):P:=h
theorem V0Q{P:Prop}(h:P:=by
 conv=>lhs;unfold pF
 simp only;rw [if_pos ht]):P:=h
theorem V3u{P:Prop}(h:P:=by
 unfold pF;cases l with
 | nil=>exact le_refl _
 | cons t r=>exact q13 (q1o (ih _ _ _) fun ys r=>ih _ _ _) (le_refl _)):P:=h
theorem V3v{P:Prop}(h:P:=by
 have:=q8V (.mk 13 (hdA (wordsL s).l) [] 0 [] zs);rw [q2l] at this;simp only [q1y,List.length_nil] at this;omega):P:=h
theorem V3w{P:Prop}(h:P:=by
 gi_wp2
 refine ⟨V3,.inl ⟨_,_,rfl,run_takeDeferred HK.out,?_⟩⟩;exact ⟨_,q8G HR9.out _ rfl rfl rfl,HP.out⟩):P:=h
theorem VK{P:Prop}(h:P:=by rw [if_pos hb] at h2;cases h2):P:=h
theorem V1G{P:Prop}(h:P:=by
 conv=>lhs;unfold pF
 simp only;rw [if_neg (by rw [ht];decide)]):P:=h
theorem V3x{P:Prop}(h:P:=by
 rcases h with h | h
 ·exact q2M (hv.inN _ V3 _ h) HSN.out rfl
 ·exact q2M (hv.inN _ V3 g rfl) HSN.out h):P:=h
theorem V3y{P:Prop}(h:P:=by
 have:l.drop k=[]:=List.drop_eq_nil_of_le V0;rw [this] at h5;unfold TsIc at h5;rw [h5];exact Lies.nil _ _):P:=h
theorem V3z{P:Prop}(h:P:=by
 go_wp2_with fail
 go_roundw
 case rel=>exact ⟨i+1,V0,V5,N1,N2,N3⟩
 case measure=>simp [intOf];omega):P:=h
theorem V3A{P:Prop}(h:P:=by exact q1A 2 t.at_ 0 1 1 0 0 t.s _ none hlt he (q5u hd HON.out hR) ((hP.below HB5.out).below HB57.out) hU7):P:=h
theorem V3B{P:Prop}(h:P:=by exact q7u (lo:=w.heap.size+1) hlt (Nat.lt_succ_self _) hN (hE8 _ (q09 _)) (hq8.below HB8.out) hg8 VD hU10):P:=h
theorem V3C{P:Prop}(h:P:=by
 clear hd hq hc ho HQ;go_wp2_with fail
 refine (HK.out _).mono ?_;rintro e w' ⟨rfl,rfl⟩;exact V0I):P:=h
theorem V3D{P:Prop}(h:P:=by
 obtain ⟨i,hi⟩:=List.getElem?_of_mem hx;have:=q0n (k:=k) (a:=a) (n:=n) (s:=s) (ps:=ps) hi;omega):P:=h
theorem V1I{P:Prop}(h:P:=by
 unfold shV;by_cases h:i = 0
 ·subst h;simp
 ·simp [h]):P:=h
theorem V3E{P:Prop}(h:P:=by
 go_wp2_with fail
 go_ret;exact ⟨(congrArg (fun b=>Ending.returned (Value.bool b)) HR.out).symm,rfl⟩):P:=h
theorem V0R{P:Prop}(h:P:=by rw [ha] at e;cases e;have:=h.blk.lt;omega):P:=h
theorem V3F{P:Prop}(h:P:=by
 go_wp2_with fail
 go_round
 case rel=>exact ⟨m,V0,V5,HN⟩
 case measure=>simp [intOf];omega):P:=h
theorem V3G{P:Prop}(h:P:=by
 clear hd hq1 HJ;clear hlj hnj hlb;go_wp2_with fail
 refine (HLJ.out _).mono ?_;exact V1f):P:=h
theorem V1J{P:Prop}(h:P:=by
 intro e w4 h4;have h4':=h4.from HU.out;exact V2l):P:=h
theorem V3H{P:Prop}(h:P:=by
 go_ret;exact ⟨rfl,HB.out⟩):P:=h
theorem V3I{P:Prop}(h:P:=by
 unfold tokC;rw [hl,hn,if_neg V2,if_neg V2,<-drop_at s i hlt,if_neg h3,if_neg h2,if_pos h1]):P:=h
theorem V1K{P:Prop}(h:P:=by
 go_wp2_with fail
 go_ret;exact ⟨rfl,HB2.out⟩):P:=h
theorem VY{P:Prop}(h:P:=by rw [if_pos hb] at h;cases h):P:=h
theorem V3J{P:Prop}(h:P:=by
 rintro e w5 ⟨rfl,hb5⟩;have HB5:=Hi (HB.out.trans (hb5.mono HB.out.size));exact V0e):P:=h
theorem V0m{P:Prop}(h:P:=by show ¬ (150:Nat) = 0;decide):P:=h
theorem VE{P:Prop}(h:P:=by cases hk;rfl):P:=h
theorem Vu{P:Prop}(h:P:=by cases e;rfl):P:=h
theorem V1L{P:Prop}(h:P:=by obtain ⟨_,_,_,_,_,_,_,_,_,_,rfl⟩:=q1X h2;rfl):P:=h
theorem Vv{P:Prop}(h:P:=by rw [hb,e]):P:=h
theorem V0S{P:Prop}(h:P:=by simp [strV,Value.oneCell']):P:=h
theorem V3K{P:Prop}(h:P:=by have:=q0n (k:=k) (a:=a) (n:=n) (s:=s) (ps:=ps) hy;have:=HM.out;omega):P:=h
theorem VZ{P:Prop}(h:P:=by simp [adD] at h):P:=h
theorem V00{P:Prop}(h:P:=by have:=x.isLt;omega):P:=h
theorem V0T{P:Prop}(h:P:=by rw [h] at hr;cases hr):P:=h
theorem V01{P:Prop}(h:P:=by rw [<-HRES.out,if_pos rfl]):P:=h
theorem VL{P:Prop}(h:P:=by rw [<-HR.out];rfl):P:=h
theorem VF{P:Prop}(h:P:=by simpa using hp):P:=h
theorem VG{P:Prop}(h:P:=by have:=HG0.out;omega):P:=h
theorem V3L{P:Prop}(h:P:=by have:=q0n (k:=2) (a:=a) (n:=n) (s:=s) (ps:=ps) (l:=[x]) (i:=0) (x:=x) rfl;have:=HM.out;omega):P:=h
theorem V3M{P:Prop}(h:P:=by rw [<-HRES.out];exact ⟨rfl,q01 HU1.out (Upd.of_below hb2 fun _=>False) fun _ h=>h.elim⟩):P:=h
theorem VM{P:Prop}(h:P:=by simp [go_sem]):P:=h
theorem V1M{P:Prop}(h:P:=by rw [<-hw2];exact (Below.refl _ _).alloc (Nat.le_refl _) _):P:=h
theorem V02{P:Prop}(h:P:=by rw [<-hw2];simp):P:=h
theorem V1N{P:Prop}(h:P:=by rw [<-hw5];exact (Below.refl _ _).alloc (Nat.le_refl _) _):P:=h
theorem V3N{P:Prop}(h:P:=by have:=run_endLoop (P:=P) hl (by rw [hrec];simp);rw [hrec] at this;exact this):P:=h
theorem V0n{P:Prop}(h:P:=by rw [q1w];omega):P:=h
theorem V6{P:Prop}(h:P:=by rfl):P:=h
theorem V03{P:Prop}(h:P:=by intro e;injection e;omega):P:=h
theorem V0o{P:Prop}(h:P:=by rw [<-hw2];simp [hs1]):P:=h
theorem V1O{P:Prop}(h:P:=by rw [<-hw2,<-hs1];exact run_makeMap _ _):P:=h
theorem V04{P:Prop}(h:P:=by rw [<-HRES.out];rfl):P:=h
theorem V0U{P:Prop}(h:P:=by show w.heap.size<=w.heap.size+2;omega):P:=h
theorem V1P{P:Prop}(h:P:=by show w0.heap.size<=w.heap.size+2;have:=HB00.out;omega):P:=h
theorem V1Q{P:Prop}(h:P:=by rw [<-hW14];exact (Below.refl _ _).alloc (Nat.le_refl _) _):P:=h
theorem V1R{P:Prop}(h:P:=by rw [<-hW14];exact q07 _ _ [uV x]):P:=h
theorem V1S{P:Prop}(h:P:=by rw [q0q V0,q0q V0];decide):P:=h
theorem V0p{P:Prop}(h:P:=by rw [List.length_append];rfl):P:=h
theorem V1T{P:Prop}(h:P:=by rw [<-hw0,<-hsz];exact Blk.new _ _ _):P:=h
theorem V0V{P:Prop}(h:P:=by have:=(q15 how).1;omega):P:=h
theorem V0q{P:Prop}(h:P:=by simp [ndC,Value.oneCell']):P:=h
theorem V1U{P:Prop}(h:P:=by have:=HH.out.lt;simp at this ⊢;omega):P:=h
theorem V0r{P:Prop}(h:P:=by unfold isS;simp [hk]):P:=h
theorem V0s{P:Prop}(h:P:=by show g<=g+1;omega):P:=h
theorem V0t{P:Prop}(h:P:=by show g<=g+2;omega):P:=h
theorem V3O{P:Prop}(h:P:=by rw [<-hw2];exact ((HN1.out.far (p:=⟨g+1,0,none⟩) hg01 _).far (p:=⟨g+2,0,none⟩) hg02 _).drew):P:=h
theorem V3P{P:Prop}(h:P:=by rw [<-hw2];exact ((HA1.out.set 0 _).far (p:=⟨g+2,0,none⟩) hg12 _).drew):P:=h
theorem V3Q{P:Prop}(h:P:=by rw [<-hw2];exact ((HE1.out.far (p:=⟨g+1,0,none⟩) (Ne.symm hg12) _).set 0 _).drew):P:=h
theorem V3R{P:Prop}(h:P:=by rw [<-hw2];exact ((HA1.out.set 0 _).far (p:=⟨g+2,0,none⟩) hg12 _).alloc _):P:=h
theorem V3S{P:Prop}(h:P:=by rw [<-hw2];exact ((HE1.out.far (p:=⟨g+1,0,none⟩) (Ne.symm hg12) _).set 0 _).alloc _):P:=h
theorem V3T{P:Prop}(h:P:=by rw [<-hw4];exact q02 (X:=fun b=>b=g) (Upd.refl _ _) (fun _=>rfl) _ _ _ _ _ _):P:=h
theorem V0u{P:Prop}(h:P:=by simp only [baseN];omega):P:=h
theorem V0W{P:Prop}(h:P:=by simp only [q1y];omega):P:=h
theorem V3U{P:Prop}(h:P:=by show _=Ending.returned (resN (numR 10 (List.drop 0 s.data.toList)));rw [HF.out];rfl):P:=h
theorem V3V{P:Prop}(h:P:=by show _=Ending.returned (resN (numR 16 (List.drop 2 s.data.toList)));rw [HF.out];rfl):P:=h
theorem V1V{P:Prop}(h:P:=by show ¬ w5.heap.size < w.heap.size;omega):P:=h
theorem V0v{P:Prop}(h:P:=by unfold onS;simp [hk4]):P:=h
theorem VN{P:Prop}(h:P:=by have:=HQ.out;omega):P:=h
theorem V3W{P:Prop}(h:P:=by rw [hW6];exact HU5.out.setCell (p:=⟨wr.heap.size,0,none⟩) (fun h=>absurd h (Nat.lt_irrefl _)) _):P:=h
theorem V3X{P:Prop}(h:P:=by have:=hwd W;rwa [show wordB (⟨X.toArray⟩:ByteArray).data.toList=false from hwb] at this):P:=h
theorem V3Y{P:Prop}(h:P:=by rw [show runL true (s.data.toList.drop (i+1))=m - 1 from VC,<-HXC.out,hwb];decide):P:=h
theorem V3Z{P:Prop}(h:P:=by intro v hSw;have hA:=HXD.out.below hSw HXD.out.lt;have E_:=Blk.c6 hA;have hga:=hA.lt;clear hSw hA;go_simp;try with_reducible rfl):P:=h
theorem V40{P:Prop}(h:P:=by intro v hSw;have hA:=HFd.out.upd hSw HNF.out;have E_:=Blk.c6 hA;have hga:=hA.lt;clear hSw hA;go_simp;try with_reducible rfl):P:=h
theorem V1W{P:Prop}(h:P:=by have:=q7k (k:=k) (a:=a) (n:=n) (s:=s) (ps:=ps) hy;omega):P:=h
theorem V41{P:Prop}(h:P:=by intro v hSw;have hA:=HPy.out.upd hSw HNA.out;have E_:=Blk.c6 hA;have hga:=hA.lt;clear hSw hA;go_simp;try with_reducible rfl):P:=h
theorem V42{P:Prop}(h:P:=by intro v hSw;have hA:=(HAy.out.below hb6 HAy.out.lt).lt;clear hSw;go_simp;try with_reducible rfl):P:=h
theorem V43{P:Prop}(h:P:=by obtain ⟨mf,hf⟩:=HG0.out.fun_;have:=hf.lt;have:=HAB.out;omega):P:=h
theorem VO{P:Prop}(h:P:=by have:=HS1.out;omega):P:=h
theorem V1X{P:Prop}(h:P:=by rcases hb with h | h <;> (have:=HG.out;have:=HG'.out;omega)):P:=h
theorem V0w{P:Prop}(h:P:=by have:=hsz.out;omega):P:=h
theorem V44{P:Prop}(h:P:=by rw [<-hw6];exact (Upd.refl (fun b=>b=gm) w5).setCell (p:=⟨gm,2,none⟩) (fun _=>rfl) _):P:=h
theorem V0x{P:Prop}(h:P:=by have:=HG.out;have:=HG'.out;omega):P:=h
theorem V1Y{P:Prop}(h:P:=by exact ⟨hb,(Array.getElem?_eq_some_iff.1 hh).1⟩):P:=h
theorem V45{P:Prop}(h:P:=by
 have HF:=Hi hfin;clear hfin
 go_wp2
 go_ret2
 exact ⟨by rw [HF.out];rfl,rfl⟩):P:=h
theorem V46{P:Prop}(h:P:=by
 rw [hk];unfold Kn.put;rw [if_neg (fun e=>by subst e;rw [hn] at ht;cases ht)];exact ht):P:=h
theorem V0X{P:Prop}(h:P:=by rw [ha] at hb;cases hb;exact .inr hn):P:=h
theorem V47{P:Prop}(h:P:=by exact ⟨⟨_,rfl⟩,.inr ⟨_,⟨[],by rw [List.append_nil];exact HPR.out⟩,hJx3⟩⟩):P:=h
theorem V48{P:Prop}(h:P:=by
 show (l (.string t) && !(Lit.string t).sameKey (.string s))=_;rw [h3 t ht,q7C]):P:=h
theorem V49{P:Prop}(h:P:=by
 rw [hX,drop_at s i hlt];obtain ⟨m',rfl⟩:∃ m',m=m'+1:=⟨m - 1,VC⟩;rfl):P:=h
theorem V4a{P:Prop}(h:P:=by
 clear hR hU;go_wp2_with fail
 exact ⟨rfl,.inr ⟨_,_,rfl,HR.out,HU11.out⟩⟩):P:=h
theorem V1Z{P:Prop}(h:P:=by
 go_ret2
 exact ⟨by simp [shV,shC,n0],rfl⟩):P:=h
theorem V20{P:Prop}(h:P:=by
 go_enter Tryz.func183,Tryz.ntmps183;exact VQ):P:=h
theorem V4b{P:Prop}(h:P:=by
 clear hR hU;go_wp2_with fail
 exact ⟨rfl,.inr ⟨_,_,rfl,HR.out,HU6.out⟩⟩):P:=h
theorem V4c{P:Prop}(h:P:=by
 have e:(w.alloc (.cells cs 26)).heap.size=w.heap.size+1:=V3;rw [e] at h;exact h):P:=h
theorem V4d{P:Prop}(h:P:=by
 clear hu5;go_wp2_with fail
 exact ⟨rfl,.inr ⟨_,_,rfl,HR.out,HU5.out⟩⟩):P:=h
theorem VP{P:Prop}(h:P:=by
 clear hu4;exact Vl):P:=h
theorem V4e{P:Prop}(h:P:=by
 have ha':((60:UInt8)==a)=false:=beq_eq_false_iff_ne.2 (Ne.symm ha);exact V1E):P:=h
theorem V21{P:Prop}(h:P:=by
 go_enter Tryz.func50,Tryz.ntmps50;exact VQ):P:=h
theorem V0Y{P:Prop}(h:P:=by rw [e] at hb;exact .inl (n2 b hb)):P:=h
theorem V0Z{P:Prop}(h:P:=by rw [e] at hb;exact .inl (n1 b hb)):P:=h
theorem V10{P:Prop}(h:P:=by rw [e] at hb;exact .inl (n0 b hb)):P:=h
theorem V4f{P:Prop}(h:P:=by
 go_ret;obtain ⟨e1,e2,e3,e4⟩:=HEND.out;exact ⟨_,_,e1,e2,rfl,e3,e4⟩):P:=h
theorem V4g{P:Prop}(h:P:=by first | exact h | exact q8B h | (split <;> first | exact h | exact q8B h)):P:=h
theorem V22{P:Prop}(h:P:=by
 show nbzs (l.drop i)<=nbz x+nbzs l;omega):P:=h
theorem V4h{P:Prop}(h:P:=by
 rw [PS.len HJ8.out.ps,PS.len HH.out.ps];simp only [List.length_cons];omega):P:=h
theorem V23{P:Prop}(h:P:=by
 obtain ⟨t,r,rfl⟩:=hg.cons;simp at hl):P:=h
theorem V4i{P:Prop}(h:P:=by have:=(List.getElem?_eq_some_iff.1 hj).1;omega):P:=h
theorem Vw{P:Prop}(h:P:=by cases e):P:=h
theorem V24{P:Prop}(h:P:=by show ¬ (100:Nat) = 0;decide):P:=h
theorem V0y{P:Prop}(h:P:=by simpa using hu):P:=h
theorem V25{P:Prop}(h:P:=by rw [List.length_drop];omega):P:=h
theorem V0z{P:Prop}(h:P:=by unfold TsIn;rfl):P:=h
theorem V11{P:Prop}(h:P:=by have:=hX b hx;omega):P:=h
theorem V0A{P:Prop}(h:P:=by simpa using e):P:=h
theorem V12{P:Prop}(h:P:=by rw [hb];simp [h1,h2]):P:=h
theorem V05{P:Prop}(h:P:=by simp [lenzs]):P:=h
theorem V13{P:Prop}(h:P:=by have:=y.isLt;omega):P:=h
theorem V26{P:Prop}(h:P:=by rw [hr] at h0;(cases h0)):P:=h
theorem V4j{P:Prop}(h:P:=by rw [<-hwm];exact (Below.refl _ _).alloc (Nat.le_refl _) _):P:=h
theorem V27{P:Prop}(h:P:=by rw [<-HRES.out,<-HQ.out];rfl):P:=h
theorem V4k{P:Prop}(h:P:=by intro u hu;obtain ⟨p,_,rfl⟩:=List.mem_map.1 hu;rfl):P:=h
theorem V14{P:Prop}(h:P:=by show n+1≠n;omega):P:=h
theorem V15{P:Prop}(h:P:=by rw [<-HPR.out];simp):P:=h
theorem V0B{P:Prop}(h:P:=by assumption):P:=h
theorem V4l{P:Prop}(h:P:=by rw [<-hw1];exact (Below.refl _ _).alloc (Nat.le_refl _) _):P:=h
theorem V16{P:Prop}(h:P:=by rw [<-HR2.out];rfl):P:=h
theorem V4m{P:Prop}(h:P:=by rw [<-HRES.out,if_neg hk1,if_neg hk4,if_neg hk5,Bool.true_and]):P:=h
theorem V4n{P:Prop}(h:P:=by rw [<-hW7];exact (Below.refl _ _).alloc (Nat.le_refl _) _):P:=h
theorem V4o{P:Prop}(h:P:=by rw [<-hW7];exact q07 _ _ [.string ⟨s.toArray⟩]):P:=h
theorem V0C{P:Prop}(h:P:=by simpa using h1):P:=h
theorem V4p{P:Prop}(h:P:=by intro e;apply h;have:=congrArg List.length e;simpa using this):P:=h
theorem V28{P:Prop}(h:P:=by rw [eq_of_beq hc];decide):P:=h
theorem V17{P:Prop}(h:P:=by simp at hr ⊢;omega):P:=h
theorem V4q{P:Prop}(h:P:=by rw [show k - 1+(6 - k) = 5 from V0];exact hR):P:=h
theorem V0D{P:Prop}(h:P:=by rw [hs];decide):P:=h
theorem V29{P:Prop}(h:P:=by rw [HLL.out];exact HR3.out):P:=h
theorem V0E{P:Prop}(h:P:=by rw [<-hwf];simp):P:=h
theorem V2a{P:Prop}(h:P:=by unfold onB;simp [hlb,hnb]):P:=h
theorem V4r{P:Prop}(h:P:=by rw [hW6];exact ((Upd.refl _ _).alloc _).alloc _):P:=h
theorem V18{P:Prop}(h:P:=by have:=HG.out;omega):P:=h
theorem V19{P:Prop}(h:P:=by simp;try omega):P:=h
theorem V4s{P:Prop}(h:P:=by show m+ps.length+c.rd * 134217728<=m+cost+c.rd * 134217728;omega):P:=h
theorem V4t{P:Prop}(h:P:=by rw [<-hw4];exact (Below.refl _ _).alloc (Nat.le_refl _) _):P:=h
theorem V4u{P:Prop}(h:P:=by have:=(Nm.own_atV hL5 b hb).1;have:=HY4.out.lt;omega):P:=h
theorem V1a{P:Prop}(h:P:=by rw [<-hw5];simp):P:=h
theorem V2b{P:Prop}(h:P:=by have:=hr _ e.symm;omega):P:=h
theorem V4v{P:Prop}(h:P:=by cases e;exact ⟨Nat.zero_le _,_,hk2,rfl⟩):P:=h
theorem V2c{P:Prop}(h:P:=by rw [<-hw3];simp [hs2]):P:=h
theorem V2d{P:Prop}(h:P:=by rw [<-HR.out,hlk];rfl):P:=h
theorem V4w{P:Prop}(h:P:=by rw [<-HRES.out,if_neg V2,if_pos rfl];rfl):P:=h
theorem V2e{P:Prop}(h:P:=by have:=HKB.out;omega):P:=h
theorem V1b{P:Prop}(h:P:=by rw [hL0];rfl):P:=h
theorem V4x{P:Prop}(h:P:=by rw [<-hw4];exact Blk.put6 hN3 _ _ _ _ _ _):P:=h
theorem V4y{P:Prop}(h:P:=by rw [decide_eq_false V0,decide_eq_false V0]):P:=h
theorem V4z{P:Prop}(h:P:=by rw [HI.out,HS'.out,Nat.min_eq_left V0]):P:=h
theorem V4A{P:Prop}(h:P:=by have:=HG0.out.bel.size;have:=HAB.out;omega):P:=h
theorem V2f{P:Prop}(h:P:=by unfold embs nzs;trivial):P:=h
end
end Go.Proofs.YtcgibpdjfgjldaaGreatDoor
