/- DERIVED. Au. By an AI agent. -/
import Derived.ProofKit
import Derived.OwnWalk
import Derived.LoopTactic
import Derived.IntWalk
import Derived.TacticsIn
import Derived.KernelRfl
import Derived.Tactics2
namespace Go.Proofs.YtcgibpdjfgjldaaGreatDoor
section
theorem V2a{P:Prop}(h:P:=by
 have hx:=HXr.out.below Ay.out HXr.out.lt;obtain ⟨⟨e0,e1,e2,e3,e4,e5⟩,y0,y1,y2,y3,y4,y5⟩:=Aa.c6 hx;obtain ⟨⟨g0,g1,g2,g3,g4,g5⟩,x0,x1,x2,x3,x4,x5⟩:=Aa.c6 (HYr.out.below Ay.out HYr.out.lt);have H1:=Hi hx;clear hx;go_wp2_with fail
 refine bodyPost_ret (aH rfl rfl (Aa.az H1.out _ _ _ _ _ _) rfl) rfl ?_;exact q5E (lo:=w.heap.size+1) hlt (Nat.lt_succ_self _) ((HT.out.mono (N':=fun b=>w.heap.size+1<=b) fun b hb _=>hb.1).upd (Upd.of_below Ay.out fun _=>False) (fun _ _ h=>h)) (HRD.out _ (q6b fun t0 r0 e0=>by cases e0;exact HON.out)) (HQ.out.below Ay.out) HG.out hl' (HUr.out.trans (q01 Ay.out))):P:=h
theorem V2b{P:Prop}(h:P:=by
 have hd18:∀ b,(Value.slice A9 (d.fn.length+1) c9').ownBlock=some b->(Value.slice A18 (d.many.length+1) c18').ownBlock≠some b:=fun b hb e=>by
  rcases hat18 with h | h
  ·exact h9n b hb (by rw [<-h];exact e)
  ·rw [h] at e;cases e;have:=(hu9lt _ hb).2;omega
 (try dsimp only);refine hK.out _ _ hZ18 hS18 ?_;clear hK K;(try simp only [HT.pS]);refine HT.tm 19 rfl hZ18 (fun _=>hS18) ?_;refine HT.tm 20 rfl hZ18 (fun _=>hS18) ?_;obtain ⟨bq,hbq,_⟩:=HY2.out.rv.blk;have hG8:=hbq.upd hS18 HGV.out;obtain ⟨⟨c0,c1,c2,c3,c4,c5,c6,c7,c8,c9⟩,f5,f6⟩:=EV.c10 hG8;have fz:=hG8.frozen 3;have hg8:=hG8.lt;have hZ21:=hZ18.setCell (p:=⟨g,3,none⟩) (fun _=>.inr rfl) (Value.slice A9 (d.fn.length+1) c9');refine HT.oneS (i:=21) V1 V1 rfl (fun K hK=>?_);go_simp;refine hK.out _ _ hZ21 ?_;clear hK K;(try simp only [HT.pS]);refine HT.tgm 22 rfl hZ21 ?_;refine HT.tgm 23 rfl hZ21 ?_;clear c0 c1 c2 c3 c4 c5 c6 c7 c8 c9 f5 f6 fz hg8;have hG9:=hG8.set 3 (Value.slice A9 (d.fn.length+1) c9');obtain ⟨⟨c0,c1,c2,c3,c4,c5,c6,c7,c8,c9⟩,f5,f6⟩:=EV.c10 (show Aa (W18.setCell ⟨g,3,none⟩ (Value.slice A9 (d.fn.length+1) c9')) g 70 #[v 0,v 1,v 2,(Value.slice A9 (d.fn.length+1) c9'),v 4,.int .i64 bq,.bool _,v 5,v 6,v 7] from hG9);have fz:=hG9.frozen 4;have hg9:=hG9.lt;have hZ24:=hZ21.setCell (p:=⟨g,4,none⟩) (fun _=>.inr rfl) (Value.slice A18 (d.many.length+1) c18');refine HT.oneS (i:=24) V1 V1 rfl (fun K hK=>?_);go_simp;refine hK.out _ _ hZ24 ?_;clear hK K;(try simp only [HT.pS]);refine HT.done V1 ?_;have HFIN:=Hi (HY2.out.row34 (s:=s) (q:=ps.length) (m':=m+1) hS18 hown9_ hown18 (hat9.imp id fun h=>⟨_,h,hge9⟩) (hat18.imp id fun h=>⟨_,h,hge18⟩) hd18 (Nat.le_refl _));have hend:RStP N lo w g { d with bad:=bf,fn:=d.fn ++ [s],many:=d.many ++ [ps.length] } (m+1) (.returned (.tuple #[])) ((W18.setCell ⟨g,3,none⟩ (Value.slice A9 (d.fn.length+1) c9')).setCell ⟨g,4,none⟩ (Value.slice A18 (d.many.length+1) c18')):=HFIN.out.end_;rw [HDR.out] at hend;have Ac:=Hi hend;clear hend;clear c0 c1 c2 c3 c4 c5 c6 c7 c8 c9 f5 f6 fz hg9 hG8 hG9 hown9 hown9_ hown18 bK hZ24 hZ21 hat9 hat18 hd18;go_wp2_with fail
 first | go_end0 | skip
 all_goals first | exact Ac.out | exact bodyPost_ret (results_none rfl _ _ _) rfl Ac.out):P:=h
theorem V0I{P:Prop}(h:P:=by
 have HJ8:=Hi hJ8;have HY8:=Hi (Aa.az HYH.out (.int .i64 3) (.string ⟨v.s.toArray⟩) (.int .u32 0) (.int .i64 (a:Int)) (.slice (some ⟨we.heap.size+1,0,none⟩) 2 2) (.slice none 0 0));have HX8:=Hi ((HXf.out.below HFH.out HXf.out.lt).upd hput (show ¬ w.heap.size=w1.heap.size from V0));have HU8:=Hi (q09 ((HUr.out.trans HUf.out).trans (q01 HFH.out)) (fun h=>absurd h (show ¬ w1.heap.size < w.heap.size from V0)) (.int .i64 3) (.string ⟨v.s.toArray⟩) (.int .u32 0) (.int .i64 (a:Int)) (.slice (some ⟨we.heap.size+1,0,none⟩) 2 2) (.slice none 0 0));have HL8:=Hi (hput.lies (HLf.out.below HFH.out) fun b o e _ hx=>Vb);have aV:=hput.size;clear hJ8
 go_roundw
 case rel=>exact ⟨3,a,v.s,0,some ⟨we.heap.size+1,0,none⟩,2,2,none,0,0,HJ8,HY8,HX8,HU8,HL8,Nat.le_trans (Nat.le_trans h3r (show wr.heap.size<=wh.heap.size from V0)) aV⟩
 case measure=>
  exact V2x):P:=h
theorem Vd{P:Prop}(h:P:=by
 go_wp2_with fail
 first | go_end0 | skip
 all_goals first | exact Ac.out | exact bodyPost_ret (results_none rfl _ _ _) rfl Ac.out):P:=h
theorem VY{P:Prop}(h:P:=by
 go_wp2_with fail
 go_ret;exact ⟨(congrArg (fun b=>Ending.returned (Value.bool b)) HB.out).symm,rfl⟩):P:=h
theorem V0c{P:Prop}(h:P:=by
 obtain ⟨b',o,c,nn,hn,hll,hc,hm,⟨c0,c1,c2,c3⟩,⟨z0,z1,z2,z3⟩,f4,f5,f6⟩:=hP9.head;have hz:((er:Int)==0)=false:=V4;have hx:=HXr.out;obtain ⟨⟨e0,e1,e2,e3,e4,e5⟩,y0,y1,y2,y3,y4,y5⟩:=Aa.c6 hx;obtain ⟨⟨g0,g1,g2,g3,g4,g5⟩,x0,x1,x2,x3,x4,x5⟩:=Aa.c6 HYr.out;have HP9:=Hi hP9;have HR9:=Hi hR9;have HE9:=Hi he;have hql:=hP9.lt;clear HJ hP9 hR9 he hx hn;go_wp2_with fail
 refine bodyPost_ret (aH rfl rfl (Aa.az HXr.out _ _ _ _ _ _) rfl) rfl ?_;exact q1e _ _ _ _ _ _ _ _ _ _ hlt HE9.out HR9.out HP9.out HUr.out):P:=h
theorem V0J{P:Prop}(h:P:=by
 have hpl:x.place=a:=tIn_at HT.out;have h1:Ak (fun b=>w.heap.size+1<=b/\b≠w1.heap.size) wf x (bG k a s m A la cA B lb cB):=HT.out.upd HUf.out fun b hb e=>V0
 have h2:Ak (fun b=>w.heap.size+1<=b/\b≠w1.heap.size) wf y (bG k' a' s' m' A' la' bu B' lb' bA):=(hT5.mono fun b hb hs=>⟨V0,V0⟩).upd (Upd.of_below HBF.out fun _=>False) (fun _ _ h=>h);have h3:=q8M (e:=26) (N:=fun b=>w.heap.size+1<=b/\b≠w1.heap.size) h1 h2 ⟨V0,V0⟩ 3 a 0 v.s;rw [show wf.alloc (.cells (bG k a s m A la cA B lb cB ++ bG k' a' s' m' A' la' bu B' lb' bA).toArray 26)=wg from HWG.out,hsf] at h3;unfold bin;rw [hpl];exact (h3.upd (Upd.of_below HGH.out fun _=>False) (fun _ _ h=>h)).upd hput fun b hb e=>hb.2 e):P:=h
theorem V19{P:Prop}(h:P:=by
 obtain ⟨g1,g3⟩:=hP.dc;have h1:Aa w1 w.heap.size 26 #[.int .i64 0,.string ⟨#[]⟩,.int .u32 0,.int .i64 0,.slice none 0 0,.slice none 0 0]:=HB.out.upd hU V0;obtain ⟨⟨e0,e1,e2,e3,e4,e5⟩,z0,z1,z2,z3,z4,z5⟩:=Aa.c6 h1;have hlt1:=hP.lt;have hlg:=h1.lt;have hgb:w.heap.size≠bp:=V0;have H1:=Hi h1;have HT:=Hi hT;have HR:=Hi hR;have HP:=Hi hP;have HG:=Hi hG;have HU:=Hi hU;clear h1 hT hR hP hG hU;go_wp2_with fail
 refine bodyPost_ret (aH rfl rfl ((Aa.az (H1.out.far hgb _) _ _ _ _ _ _).alloc _) rfl) rfl ?_;have hs1:UB bp w1 (w1.setCell ⟨bp,1,none⟩ (.int .i64 (d:Int))):=(Upd.refl (fun b=>b=bp) w1).setCell (fun _=>rfl) _;exact (q0N hlt HB.out.lt (Ak.far HT.out hs1 fun b hb=>by have:=HB.out.lt;omega) HR.out (HP.out.deep d) HG.out hr ((Bc.out.trans HU.out).trans hs1)).below ((Below.refl _ _).alloc (Nat.le_refl _) _)):P:=h
theorem V2d{P:Prop}(h:P:=by
 clear h4;cases res with
 | bad a2 er2=>
  obtain ⟨rfl,aF⟩:=h4';have Ac:=Hi (show XP g x ca w (.bad a2 er2) (panF a2 er2) w4 from ⟨rfl,aF⟩);clear aF;go_wp2_with fail
  exact ⟨rfl,Ac.out⟩
 | ok q=>
  obtain ⟨b2,nd2⟩:=q;obtain ⟨rfl,hB4,aF⟩:=h4';have Ac:=Hi (show XP g x ca w (.ok (b2,nd2)) (.returned (.bool b2)) w4 from ⟨rfl,hB4,aF⟩);clear hB4 aF;exact VD):P:=h
theorem V2e{P:Prop}(h:P:=by
 obtain ⟨k,hk,rfl,HQ⟩:=hrel;by_cases hlt:k < l.length
 ·obtain ⟨t,ht⟩:∃ t,l[k]?=some t:=⟨_,List.getElem?_eq_getElem hlt⟩;have ht2:(strs l)[k]?=some (.string ⟨t.toArray⟩):=by simp [ht]
  obtain ⟨b',o,rfl,_,hc⟩:=HA.out.at_ ht2;have e1:=hc _ _ ht2;have HTT:=Hi ht;clear hc ht2 ht;cases hq:(t==s.toList) with
  | true=>
   have hts:t=s.data.toList:=by have:=eq_of_beq hq;rwa [ByteArray.toList_eq] at this
   have HR:=Hi (show b=true from by rw [<-HB.out,List.contains_eq_mem,decide_eq_true_eq,<-hts];exact List.mem_of_getElem? HTT.out);clear hts;exact V3s
  | false=>
   have hts:t≠s.data.toList:=fun e=>by rw [ByteArray.toList_eq,e] at hq;simp at hq
   have HTS:=Hi hts;clear hts;go_wp2_with fail
   go_round
   case rel=>exact ⟨k+1,V0,V7,Hi fun j hj=>by
    by_cases hjk:j < k
    ·exact HQ.out j hjk
    ·obtain rfl:j=k:=by omega
     rw [HTT.out];intro e;exact HTS.out (Option.some.inj e)⟩
   case measure=>simp [intOf];omega
 ·have HR:=Hi (show b=false from by rw [<-HIN.out k HQ.out,List.drop_of_length_le V0];rfl);exact V3s):P:=h
theorem V0d{P:Prop}(h:P:=by
 refine .inl ⟨x,r',?_,fun o h=>r_lev V2 hR h,(hP.below HB2.out).below hb3,hG,hr⟩;exact ((hT.mono (N':=fun b=>w.heap.size+1<=b/\b≠w1.heap.size) fun b hb hs=>⟨V0,V0⟩).upd (Upd.of_below HB2.out fun _=>False) (fun _ _ h=>h)).upd (Upd.of_below hb3 fun _=>False) (fun _ _ h=>h)):P:=h
theorem V0e{P:Prop}(h:P:=by (intro w hSw;obtain ⟨y0,y1,y2⟩:=hSw;go_simp;try with_reducible rfl)):P:=h
theorem Vk{P:Prop}(h:P:=by
 go_wp2_with fail
 exact ⟨rfl,Ac.out⟩):P:=h
theorem VZ{P:Prop}(h:P:=by
 clear hX hT hR hP hG hU;go_wp2_with fail
 exact bodyPost_ret (aH rfl rfl (Aa.az HX.out _ _ _ _ _ _) rfl) rfl (q0N hlt V0 HT.out HR.out HP.out HG.out hr HU.out)):P:=h
theorem V1b{P:Prop}(h:P:=by
 go_enter Tryz.func53,Tryz.ntmps53;go_wp2_with fail
 all_goals
  refine HT.out.mono ?_;rintro e w1 ⟨rfl,hb1⟩;obtain ⟨b',o,c,n,hn,hl,hc,hm,⟨c0,c1,c2,c3⟩,⟨z0,z1,z2,z3⟩,f4,f5,f6⟩:=(HP.out.below hb1).head;have hlt1:=(HP.out.below hb1).lt;have HB1:=Hi hb1;clear hb1 hn;go_wp2_with fail
  go_ret;exact ⟨rfl,HB1.out.alloc HB1.out.size _⟩):P:=h
theorem Vv{P:Prop}(h:P:=by (intro w hSw;have q2:=Aa.cell hSw 2;have q3:=Aa.cell hSw 3;clear hSw;go_simp;try with_reducible rfl)):P:=h
theorem V2h{P:Prop}(h:P:=by
 have hz:=HST.out.back (HST8.out.back (q1C hq8));have hT8:Ak (fun b=>w.heap.size+1<=b) w8 x (bG k a s m A la cA B lb cB):=(((tup (HT6.out hz) (show w.heap.size+1<=w5.heap.size from V0)).upd (Upd.of_below HB7.out fun _=>False) (fun _ _ h=>h)).upd HU78.out fun b hb e=>V0);have hA:=AY.first (e:=26) hT8 V0;rw [show w8.alloc (.cells (bG k a s m A la cA B lb cB).toArray 26)=w9 from HW9.out] at hA;have hN:=(hA.upd (Upd.of_below HB10.out fun _=>False) (fun _ h=>h.elim)).node V3 10 t.at_ 0 sn;exact q5E (lo:=w.heap.size+1) hlt (Nat.lt_succ_self _) hN (hE8 _ (q0a _)) (hq8.below HB8.out) hg8 Vp hU10):P:=h
theorem Vl{P:Prop}(h:P:=by exact ⟨rfl,Ac.out⟩):P:=h
theorem V1c{P:Prop}(h:P:=by
 rintro e w' ⟨rfl,rfl⟩;go_wp2_with fail
 go_round
 case rel=>exact ⟨j+1,⟨V0,V0⟩,V7,HN⟩
 case measure=>simp [intOf];omega):P:=h
theorem V2i{P:Prop}(h:P:=by
 have hT5:Ak (fun b=>w.heap.size+1<=b) w5 x (bG k a s m A la cA B lb cB):=(tup hT (show w.heap.size+1<=w3.heap.size from V0)).upd (Upd.of_below HB5.out fun _=>False) (fun _ _ h=>h);have hA:=AY.first (e:=26) hT5 V0;rw [show w5.alloc (.cells (bG k a s m A la cA B lb cB).toArray 26)=w6 from HW6.out] at hA;have hN:=(hA.upd (Upd.of_below HB67.out fun _=>False) (fun _ h=>h.elim)).node V3 2 t.at_ 0 t.s;rw [hs5] at hN;exact q5E (lo:=w.heap.size+1) hlt (Nat.lt_succ_self _) hN (r_un hd HON.out hR) ((hP.below HB5.out).below HB57.out) hG V4 hU7):P:=h
theorem V1d{P:Prop}(h:P:=by
 have HB5:=Hi (HB4.out.trans (hb5.mono HB4.out.size));have HL5:=Hi (HLI.out w5);clear hb5 HC;go_wp2_with fail
 refine HL5.out.mono ?_;rintro e w6 ⟨rfl,hb6⟩;have HB6:=Hi (HB5.out.trans (hb6.mono HB5.out.size));clear hb6;go_wp2_with fail
 go_ret;exact ⟨rfl,HB6.out⟩):P:=h
theorem Vy{P:Prop}(h:P:=by
 go_enter Tryz.func128,Tryz.ntmps128;go_wp2_with fail
 go_ret2
 exact ⟨rfl,rfl⟩):P:=h
theorem Vz{P:Prop}(h:P:=by
 clear hR hU;go_wp2_with fail
 exact ⟨rfl,.inr ⟨_,_,rfl,HR.out,HU.out⟩⟩):P:=h
theorem V2j{P:Prop}(h:P:=by
 have h1:Aa w1 w.heap.size 26 #[.int .i64 0,.string ⟨#[]⟩,.int .u32 0,.int .i64 0,.slice none 0 0,.slice none 0 0]:=HB.out.upd hU V0;obtain ⟨⟨e0,e1,e2,e3,e4,e5⟩,z0,z1,z2,z3,z4,z5⟩:=Aa.c6 h1;have H1:=Hi h1;have HT:=Hi hT;have HR:=Hi hR;have HP:=Hi hP;have HG:=Hi hG;have HU:=Hi hU;clear h1 hT hR hP hG hU;go_wp2_with fail
 exact bodyPost_ret (aH rfl rfl (Aa.az H1.out _ _ _ _ _ _) rfl) rfl (q0N hlt HB.out.lt HT.out HR.out HP.out HG.out hr ((q01 HB0.out).trans HU.out))):P:=h
theorem V2k{P:Prop}(h:P:=by
 generalize FtV (namedL s.data.toList)=V at *;have HW:=Hi hw;have HN:=Hi hn;clear hw hn hW hN;go_enter Tryz.func180,Tryz.ntmps180;go_wp2_with fail
 refine (HW.out _).mono ?_;rintro e w' ⟨rfl,rfl⟩;go_wp2_with fail
 refine (HN.out _).mono ?_;rintro e w' ⟨rfl,rfl⟩;go_wp2_with fail
 refine bodyPost_ret (q36 rfl _ _ w.heap.size _ rfl (loadT (Aa.new _ _ _))) rfl ?_;exact ⟨(congrArg Ending.returned HV.out).symm,(Below.refl _ _).alloc (Nat.le_refl _) _⟩):P:=h
theorem V2l{P:Prop}(h:P:=by
 rintro e w6 ⟨rfl,hb6⟩;have HB6:=Hi (HB5.out.trans (hb6.mono HB5.out.size));have di:=hb5.trans (hb6.mono hb5.size);clear hb6;(try dsimp only);refine hK.out _ _ di trivial ?_;clear hK K;(try simp only [HT.pS]);refine HT.done V1 ?_;clear hb5 di;go_wp2_with fail
 first | go_end0 | skip
 all_goals (rw [<-show none=res from HRES2.out];first | exact ⟨rfl,HB6.out⟩ | exact bodyPost_ret (results_none rfl _ _ _) rfl ⟨rfl,HB6.out⟩)):P:=h
theorem V0f{P:Prop}(h:P:=by exact .inr ⟨ba,er,t5,r5,he,HRD.out _ (q55 HON.out hR5),((hP5.below HBF.out).below HFH.out).far hput fun b hb=>V0⟩):P:=h
theorem V0{P:Prop}(h:P:=by omega):P:=h
theorem V3{P:Prop}(h:P:=by simp):P:=h
theorem V2{P:Prop}(h:P:=by decide):P:=h
theorem V4{P:Prop}(h:P:=by simp;omega):P:=h
theorem V1{P:Prop}(h:P:=by kernel_rfl):P:=h
theorem V6{P:Prop}(h:P:=by unfold maxLen;omega):P:=h
theorem V9{P:Prop}(h:P:=by have:=HSN.out;omega):P:=h
theorem Vm{P:Prop}(h:P:=by intro v hSw;have hA:=HXd.out.below hSw HXd.out.lt;have E_:=Aa.c6 hA;obtain ⟨c1,c2⟩:=HBX.out v (HBd.out.trans (hSw.mono HBd.out.size));clear hSw hA;go_simp;try with_reducible rfl):P:=h
theorem Vh{P:Prop}(h:P:=by intro v hSw;have hA:=HXd.out.below hSw HXd.out.lt;have E_:=Aa.c6 hA;clear hSw hA;go_simp;try with_reducible rfl):P:=h
theorem VJ{P:Prop}(h:P:=by intro v hSw;have hA:=HXd.out.upd hSw HNO.out;have hG:=HVd.out.blk.upd hSw HGO.out;have E_:=Aa.c6 hA;have D_:=Aa.c6 hG;clear hSw hA hG;go_simp;try with_reducible rfl):P:=h
theorem Vr{P:Prop}(h:P:=by intro v hSw;have hA:=HXz.out.upd hSw HNV.out;have E_:=Aa.c6 hA;clear hSw hA;go_simp;try with_reducible rfl):P:=h
theorem Vs{P:Prop}(h:P:=by intro v hSw;have hA:=HXd.out.upd hSw HNK.out;have hG:=HVd.out.blk.upd hSw HGK.out;have E_:=Aa.c6 hA;have D_:=Aa.c6 hG;clear hSw hA hG;go_simp;try with_reducible rfl):P:=h
theorem VA{P:Prop}(h:P:=by intro v hSw;have E_:=Aa.c6 hSw;clear hSw;go_simp;try with_reducible rfl):P:=h
theorem V5{P:Prop}(h:P:=by intro v hSw;obtain ⟨⟨x5,x6,hA⟩,hB⟩:=hSw;obtain ⟨⟨c0,c1,c2,c3,c4,c5,c6,c7,c8,c9⟩,f5,f6⟩:=EV.c10 hA;have E_:=Aa.c6 hB;have hga:=hA.lt;have hgb:=hB.lt;clear hA hB;go_simp;try with_reducible rfl):P:=h
theorem Vi{P:Prop}(h:P:=by intro v hSw;obtain ⟨⟨x5,x6,hA⟩,hB⟩:=hSw;have E_:=Aa.c6 hB;have hga:=hA.lt;have hgb:=hB.lt;clear hA hB;go_simp;try with_reducible rfl):P:=h
theorem V00{P:Prop}(h:P:=by intro v hSw;have hA:=HY.out.bx.upd hSw HNV.out;have E_:=Aa.c6 hA;clear hSw hA;go_simp;try with_reducible rfl):P:=h
theorem Vg{P:Prop}(h:P:=by rw [<-hw2];exact hb1.alloc hb1.size _):P:=h
theorem Vt{P:Prop}(h:P:=by intro v hSw;have hA:=HXd.out.below hSw HXd.out.lt;have E_:=Aa.c6 hA;have hga:=hA.lt;clear hSw hA;go_simp;try with_reducible rfl):P:=h
theorem Vn{P:Prop}(h:P:=by intro v hSw;have hA:=HXd.out.upd hSw HNX.out;have E_:=Aa.c6 hA;have hga:=hA.lt;clear hSw hA;go_simp;try with_reducible rfl):P:=h
theorem V2n{P:Prop}(h:P:=by
 refine HT.m 25 aa ?_;refine HT.m 26 aa ?_;refine HT.s 27 aa ?_;refine HT.s 28 aa ?_;refine HT.s 29 aa ?_;refine HT.s 30 aa ?_;refine HT.s 31 aa ?_;refine HT.s 32 aa ?_;refine HT.s 33 aa ?_;refine HT.m 34 aa ?_;refine HT.m 35 aa ?_;refine HT.s 36 aa ?_;refine HT.s 37 aa ?_;refine HT.s 38 aa ?_;refine HT.m 39 aa ?_;refine HT.m 40 aa ?_;refine HT.s 41 aa ?_;refine HT.s 42 aa ?_;refine HT.s 43 aa ?_;refine HT.s 44 aa ?_;refine HT.s 45 aa ?_;refine HT.m 46 aa ?_;refine HT.one (i:=48) V1 rfl (fun K hK=>?_);go_simp;refine (AA.out _ true HZZ.out).mono ?_;exact Vq):P:=h
theorem V2o{P:Prop}(h:P:=by
 refine HT.m 39 aa ?_;refine HT.m 40 aa ?_;refine HT.s 41 aa ?_;refine HT.s 42 aa ?_;refine HT.s 43 aa ?_;refine HT.s 44 aa ?_;refine HT.s 45 aa ?_;refine HT.m 46 aa ?_;refine HT.one (i:=48) V1 rfl (fun K hK=>?_);go_simp;refine (AA.out _ true HZZ.out).mono ?_;exact Vq):P:=h
theorem V2p{P:Prop}(h:P:=by
 clear hL17;have hL17:=hL17_;clear hL17_;(try dsimp only);refine hK.out _ _ hZ9 hS9 ?_;clear hK K;(try simp only [HT.pS]);refine HT.one (i:=18) V1 rfl (fun K hK=>?_);refine q0b rfl _ _ 68 rfl lo 3 i1 (.int .i64 0) 1 8 Tryz.underlying68 HJ.out HJ0.out HJ1.out HJ2.out rfl V2 (v 4) d.many.length _ rfl bK (some ⟨a17,0,none⟩) 1 1 [intV ps.length] rfl rfl hL17 (by simp [intV,Value.oneCell']) V6 V0 (by have:=hZ9.size;omega) ?_;intro r18 W18 hown18 hgrow18 hat18;obtain ⟨A18,c18',rfl⟩:=q07 hown18;have hS18:=hS9.grown hgrow18 fun b hb _=>.inr hb
 have hZ18:=hZ9.grown hgrow18 fun b hb _=>.inl (.inr hb)
 obtain ⟨z18,hz18⟩:∃ b,W9.heap.size=b:=⟨_,rfl⟩;rw [hz18] at hat18;have hge18:wy2.heap.size<=z18:=by rw [<-hz18];exact hZ9.size
 have hu9lt:=av hown9;have h9n:∀ b,(Value.slice A9 (d.fn.length+1) c9').ownBlock=some b->(v 4).ownBlock≠some b:=fun b hb e=>by
  rcases hat9 with h | h
  ·exact h34o b (by rw [<-h];exact hb) e
  ·rw [h] at hb;cases hb;have:=hb4 _ e;omega
 have hown9_:=ae hown9 ((Upd.refl (fun b=>(v 4).ownBlock=some b) W9).grown hgrow18 fun k hk _=>hk) (fun b hb e=>h9n b hb e);exact V2b):P:=h
theorem V2q{P:Prop}(h:P:=by
 intro v' w8 hown hgrow hat;obtain ⟨vA,vc,rfl⟩:=q07 hown;have aV:Upd (fun b=>vl.ownBlock=some b) wz w8:=hs4.grown hgrow fun b hb _=>hb
 have bR:Upd (fun b=>vl.ownBlock=some b\/b=G.g) wz w8:=aV.mono fun b hb=>.inl hb
 have Ac:=Hi (HFIN.out vA vc w8 aV hown hat);(try dsimp only);refine hK.out _ _ bR aV ?_;clear hK K;(try simp only [HT.pS]);refine HT.tm 8 rfl bR (fun _=>aV) ?_;refine HT.tm 9 rfl bR (fun _=>aV) ?_;have hG8:=HGz.out.blk.upd aV HGV.out;obtain ⟨c0,c1,c2,c3,c4,c5,c6⟩:=Aa.c7 hG8;have fz:=hG8.frozen 2;have hg8:=hG8.lt;refine HT.oneS (i:=10) V1 V1 rfl (fun K hK=>?_);go_simp;refine hK.out _ _ (bR.setCell (p:=⟨G.g,2,none⟩) (fun _=>.inr rfl) _) ?_;clear hK K;(try simp only [HT.pS]);refine HT.done V1 ?_;clear hown hat hgrow aV bR hG8 hz4 hs4 hw4 hb4 hL4 ho4 c0 c1 c2 c3 c4 c5 c6 fz hg8 aa hS0;exact Vd):P:=h
theorem V2r{P:Prop}(h:P:=by
 refine HT.m 22 aa ?_;refine HT.m 23 aa ?_;refine HT.s 24 aa ?_;refine HT.s 25 aa ?_;refine HT.s 26 aa ?_;refine HT.s 27 aa ?_;refine HT.s 28 aa ?_;refine HT.s 29 aa ?_;refine HT.m 30 aa ?_;refine HT.m 31 aa ?_;refine HT.s 32 aa ?_;refine HT.s 33 aa ?_;refine HT.s 34 aa ?_;refine HT.m 35 aa ?_;refine HT.one (i:=37) V1 rfl (fun K hK=>?_);go_simp;refine (AA.out _ true HZZ.out).mono ?_;exact Vq):P:=h
theorem V0g{P:Prop}(h:P:=by
 have HON:=Hi hon;clear hk4 hon;go_wp2_with fail
 refine (tok wr bp 0 0 v r' HQ.out).mono ?_;rintro e wb ⟨rfl,hbb⟩;have Ay:=Hi hbb;have halb:=hbb.size;clear hbb c0 c1 c2 c3 z0 z1 z2 z3 f4 f5 f6;exact V2a):P:=h
theorem V2s{P:Prop}(h:P:=by
 go_wp2_with fail
 have aa:Upd (fun b=>b=kb) wy wy:=Upd.refl _ _;refine HT.wp_region (Z:=fun w'=>Upd (fun b=>b=kb) wy w') (S:=fun _=>True) (st:=[]) V1 ?_;rw [hwd];clear hwd;refine HT.m 0 aa ?_;refine HT.m 1 aa ?_;refine HT.m 2 aa ?_;refine HT.k 3 rfl (by intro v hSw;have hA:=HYB.out.upd hSw HNB.out;obtain ⟨c0,c1,c2,c3,c4,c5,c6⟩:=Aa.c7 hA;have hga:=hA.lt;clear hSw hA;go_simp;try with_reducible rfl) aa ?_;refine HT.m 4 aa ?_;refine HT.k 5 rfl (by intro v hSw;have hA:=HYX.out.upd hSw HNX.out;obtain ⟨d0,d1,d2,f0,f1,f2⟩:=Aa.c3 hA;have hga:=hA.lt;clear hSw hA;go_simp;try with_reducible rfl) aa ?_;refine HT.one (i:=6) V1 rfl (fun K hK=>?_);go_simp;(try dsimp only);refine hK.out _ _ hz7 trivial ?_;clear hK K;(try simp only [HT.pS]);refine HT.done V1 ?_;clear aa hz7 hrun;exact Vd):P:=h
theorem V2t{P:Prop}(h:P:=by
 intro e w4 h4;cases res with
 | bad a2 er2=>
  obtain ⟨rfl,aF⟩:=h4;have Ac:=Hi (show SP w0 w G vl fu k0 m c.rd cost (.bad a2 er2) (panF a2 er2) w4 from ⟨rfl,(Upd.of_below HBN.out _).trans (aF.mono fun b hb=>hb.elim .inl fun h=>.inr (.inr (.inr h)))⟩);exact VW
 | ok d=>
  obtain ⟨rfl,vl4,hG4,hn4,aF⟩:=h4;have Ac:=Hi (show SP w0 w G vl fu k0 m c.rd cost (.ok d) (.returned (.tuple #[])) w4 from by
   have hnb:=HNB.out;have hrd:d.rd=c.rd:=HRDQ.out d rfl;refine ⟨rfl,vl4,fm,m+1,hG4,?_,(Upd.of_below HBN.out _).trans (aF.mono fun b hb=>hb.elim .inl fun h=>.inr (.inr (.inr h))),by rw [hrd];omega,by rw [hrd];exact Nat.le_refl _⟩;rcases hn4 with h | ⟨n,h3,h7⟩
   ·exact .inl h
   ·exact .inr ⟨n,Nat.le_trans HBN.out.size h3,h7⟩)
  clear hG4 hn4 aF;exact Vd):P:=h
theorem V0h{P:Prop}(h:P:=by
 obtain ⟨rfl,hc1,hu1⟩:=h1;have Ac:=Hi (show Ag N lo w g (.ok d) m' (.returned (.tuple #[])) w1 from ⟨rfl,q2b (q1v hc1 (Nat.le_refl _)) V9,q0i Bc.out hu1 V9⟩);clear hc1 hu1;exact Vd):P:=h
theorem V2u{P:Prop}(h:P:=by
 refine HT.m 25 aa ?_;refine HT.m 26 aa ?_;refine HT.s 27 aa ?_;refine HT.s 28 aa ?_;refine HT.s 29 aa ?_;refine HT.s 30 aa ?_;refine HT.s 31 aa ?_;refine HT.s 32 aa ?_;refine HT.s 33 aa ?_;refine HT.m 34 aa ?_;refine HT.one (i:=36) V1 rfl (fun K hK=>?_);go_simp;refine (AA.out _ true HZZ.out).mono ?_;exact Vq):P:=h
theorem V0i{P:Prop}(h:P:=by
 obtain ⟨rfl,hu1⟩:=h1;have Ac:=Hi (show Ag N lo w g (.bad a1) m' (panW a1) w1 from ⟨rfl,q0i Bc.out hu1 V9⟩);clear hu1;exact Vk):P:=h
theorem VB{P:Prop}(h:P:=by
 generalize aA s.data.toList=b at *;go_enter Tryz.func201,Tryz.ntmps201;exact VY):P:=h
theorem V0j{P:Prop}(h:P:=by
 have HIN:=Hi hin;clear hbb hin;go_wp2_with fail
 refine HIN.out.mono ?_;rintro e w' ⟨rfl,rfl⟩;exact V2a):P:=h
theorem V2w{P:Prop}(h:P:=by
 rw [hbad];have e:(#[v 0,v 1,v 2,v 3,v 4,.int .i64 ba,.bool d.bad.isSome,v 5,v 6,v 7]:Array Value).setIfInBounds (rvC i) u = #[cK v i u 0,cK v i u 1,cK v i u 2,cK v i u 3,cK v i u 4,.int .i64 ba,.bool d.bad.isSome,cK v i u 5,cK v i u 6,cK v i u 7]:=by
  have h8:i = 0\/i = 1\/i = 2\/i = 3\/i = 4\/i = 5\/i = 6\/i = 7:=V0;rcases h8 with rfl | rfl | rfl | rfl | rfl | rfl | rfl | rfl <;> rfl
 rw [<-e];exact hset):P:=h
theorem V1e{P:Prop}(h:P:=by
 obtain ⟨rfl,hb2⟩:=h2;have Ac:=Hi (show Ag N lo w g res (m+1) (panW a1) w2 from V3B);clear hb2;exact Vk):P:=h
theorem V01{P:Prop}(h:P:=by
 rintro e w' ⟨rfl,rfl⟩;go_wp2_with fail
 go_ret;exact ⟨rfl,rfl⟩):P:=h
theorem VC{P:Prop}(h:P:=by (intro w hSw;obtain ⟨y0,y1⟩:=hSw;go_simp;try with_reducible rfl)):P:=h
theorem V1f{P:Prop}(h:P:=by
 go_wp2_with fail
 go_roundw
 case rel=>exact ⟨i+1,V0,V7,H3⟩
 case measure=>simp [intOf];omega):P:=h
theorem V0K{P:Prop}(h:P:=by
 go_wp2_with fail
 go_round
 case rel=>exact ⟨k+1,V0,V7,HN⟩
 case measure=>simp [intOf];omega):P:=h
theorem V1g{P:Prop}(h:P:=by
 have h:=(hp.deep (d+1)).below ((Below.refl _ _).alloc (Nat.le_refl _) (.cells #[.int .i64 0,.string ⟨#[]⟩,.int .u32 0,.int .i64 0,.slice none 0 0,.slice none 0 0] 26));rw [<-hw0];exact_mod_cast h):P:=h
theorem V2x{P:Prop}(h:P:=by
 rw [HQ.out.me];rcases HO.out with ⟨y,r5,hT5,hR5,hP5,hG5,hr5⟩ | ⟨ba,er,t5,r5,he,hR5,hP5⟩
 ·have h9:=(((hP5.below HBF.out).below HFH.out).far hput fun b hb=>V0).me;refine Nat.lt_of_le_of_lt (Nat.le_of_eq h9) ?_;simp;omega
 ·have h9:=(((hP5.below HBF.out).below HFH.out).far hput fun b hb=>V0).me0 he;refine Nat.lt_of_le_of_lt (Nat.le_of_eq h9) ?_;simp):P:=h
theorem VK{P:Prop}(h:P:=by (intro w hSw;obtain ⟨y0,y1,y2⟩:=hSw;go_simp;try with_reducible rfl)):P:=h
theorem V2y{P:Prop}(h:P:=by
 refine HT.k 16 rfl V5 aa ?_;refine HT.k 17 rfl V5 aa ?_;refine HT.s 18 aa ?_;refine HT.s 19 aa ?_;refine HT.s 20 aa ?_;refine HT.s 21 aa ?_;refine HT.s 22 aa ?_;refine HT.s 23 aa ?_;refine HT.s 24 aa ?_;refine HT.k 25 rfl V5 aa ?_;refine HT.one (i:=27) V1 rfl (fun K hK=>?_);go_simp;refine (AA.out true).mono ?_;exact Vq):P:=h
theorem V2z{P:Prop}(h:P:=by
 have hr:l.contains a=false:=by
  cases h:l.contains a with
  | false=>rfl
  | true=>
   obtain ⟨j,hj⟩:=List.getElem?_of_mem (List.contains_iff_mem.1 h);have hjl:=(List.getElem?_eq_some_iff.1 hj).1;exact absurd hj (HQ.out j V0)
 have HR:=Hi hr;clear hr;go_wp2_with fail
 go_ret;exact ⟨_,rfl,by rw [HR.out];simp,HH.out⟩):P:=h
theorem V2A{P:Prop}(h:P:=by
 clear hI HI;by_cases hl:n < 4294967296
 ·rw [if_neg V0] at hfin;exact V3S
 ·have:n = 4294967296:=by omega
  subst this;rw [if_pos rfl] at hfin;exact V3S):P:=h
theorem V2B{P:Prop}(h:P:=by
 rw [ho,if_neg V2] at hq;rw [ho] at hc;have HK:=Hi hc;have HN:=Hi (show R=k from V0);have hkR:R<=k:=V0;clear hd hq hc ho HQ;go_wp2_with fail
 refine (HK.out _).mono ?_;rintro e w' ⟨rfl,rfl⟩;go_wp2_with fail
 go_ret;exact ⟨by rw [HN.out] <;> rfl,rfl⟩):P:=h
theorem V2C{P:Prop}(h:P:=by
 rw [hr] at hk;rcases List.mem_cons.1 hk with rfl | hk
 ·exact wpOp_step hi fun K hK=>h1 K fun a' w' hZ hS hW=>hK a' w' ⟨⟨hZ,fun _=>hS⟩,hW⟩
 ·obtain rfl:=List.mem_singleton.1 hk;exact wpOp_step hj fun K hK=>h2 K fun a' w' hZ hS hW=>hK a' w' ⟨⟨hZ,fun _=>hS⟩,hW⟩):P:=h
theorem V0k{P:Prop}(h:P:=by exact .inr ⟨ba,er,v,r',he,q2N V2 hR,(hP.below HB2.out).below hb3⟩):P:=h
theorem V1h{P:Prop}(h:P:=by
 have HR:=Hi hR;have HU:=Hi (Bc.out.trans hU);clear hR hU;go_wp2_with fail
 exact ⟨rfl,.inr ⟨a,er,rfl,HR.out,HU.out⟩⟩):P:=h
theorem V2E{P:Prop}(h:P:=by
 show Ak N w (.mk k1 a' s1 n1 ps l) _;unfold Ak at h ⊢;obtain ⟨A1,cA1,B1,cB1,h1,h2⟩:=h;refine ⟨A1,cA1,B1,cB1,?_,h2⟩;unfold bG at h1 ⊢;simp only [List.cons.injEq] at h1 ⊢;exact ⟨h1.1,h1.2.1,h1.2.2.1,trivial,h1.2.2.2.2⟩):P:=h
theorem VD{P:Prop}(h:P:=by
 go_wp2_with fail
 go_ret;exact Ac.out):P:=h
theorem V0l{P:Prop}(h:P:=by (intro w hSw;(try dsimp only at hSw);go_simp;try with_reducible rfl)):P:=h
theorem V1i{P:Prop}(h:P:=by
 go_wp2
 go_ret2
 exact ⟨V3M,m,rfl⟩):P:=h
theorem V1j{P:Prop}(h:P:=by
 go_wp2
 go_ret2
 exact ⟨V3L,m,rfl⟩):P:=h
theorem V2F{P:Prop}(h:P:=by
 subst hji;refine hy.wpOp hi hZ ⟨⟨hZ,fun hx=>hS fun s hs=>?_⟩,H⟩;have:=hx s hs;rw [Array.getD_eq_getD_getElem?,Array.getElem?_setIfInBounds_ne (by rintro rfl;exact hist hs),<-Array.getD_eq_getD_getElem?] at this;exact this):P:=h
theorem V2G{P:Prop}(h:P:=by
 gi_wp2
 refine ⟨V3,.inl ⟨_,_,rfl,run_takeDeferred HK.out,?_⟩⟩;rw [HV.out];exact ⟨_,q1G rfl _ _ (w.heap.size+1) (w.heap.size+1+1) _ _ rfl rfl (loadT HT.out) (q05 (isAggE _) (HE.out.cell 0)),rfl,HB.out⟩):P:=h
theorem V2H{P:Prop}(h:P:=by
 generalize dvN D[k].toNat=d at hdc hdl hd;have HF:=Hi hfin;have HDC:=Hi hdc;clear hst hdc hfin;go_wp2_with (go_at_call 214;refine (HDC.out _).mono ?_;rintro e w' ⟨rfl,rfl⟩)
 go_ret2
 exact ⟨by rw [HF.out];rfl,rfl⟩):P:=h
theorem V1k{P:Prop}(h:P:=by
 rcases hb with (h | h) | h
 ·exact .inl h.1
 ·exact .inr V9
 ·exact .inr (by have:=HUz.out.size;omega)):P:=h
theorem V2I{P:Prop}(h:P:=by
 clear hX hT hR hP hG hU;go_wp2_with fail
 exact bodyPost_ret (aH rfl rfl (Aa.az HX.out _ _ _ _ _ _) rfl) rfl (q0N hlt V0 HT.out HR.out HP.out HG.out Vp HU.out)):P:=h
theorem V4o{P:Prop}(h:P:=by
 go_wp2_with fail
 go_ret;exact ⟨_,rfl,by rw [HR.out];simp,HH.out⟩):P:=h
theorem V2J{P:Prop}(h:P:=by
 obtain ⟨rfl,hu1⟩:=h1;have Ac:=Hi (show Ag N lo w g res (m+ps.length) (panW a1) w1 from by rw [<-Ad.out];exact ⟨rfl,q0i Bc.out hu1 V9⟩);clear hu1;exact Vk):P:=h
theorem V2K{P:Prop}(h:P:=by
 have h1:=hall e he hb;rw [heq] at h1;rcases Nat.lt_or_ge i listed.size with h' | h'
 ·simp [h'] at hiun h1;rw [hiun] at h1;cases h1
 ·simp [Array.getElem?_eq_none h'] at h1):P:=h
theorem V2L{P:Prop}(h:P:=by
 go_wp2_with fail
 go_ret;exact ⟨by rw [HN.out] <;> rfl,rfl⟩):P:=h
theorem V0M{P:Prop}(h:P:=by
 go_wp2_with fail
 go_ret;exact ⟨by rw [HE.out] <;> rfl,rfl⟩):P:=h
theorem V1l{P:Prop}(h:P:=by
 go_enter Tryz.func214,Tryz.ntmps214
 go_wp2
 go_ret;exact ⟨by rw [HD.out];go_num,rfl⟩):P:=h
theorem V2M{P:Prop}(h:P:=by
 clear hd hq1 HJ;clear hlj hnj hlb hnb;go_wp2_with fail
 refine (HLJ.out _).mono ?_;rintro e w' ⟨rfl,rfl⟩;go_wp2_with fail
 refine (HNJ.out _).mono ?_;exact V1c):P:=h
theorem V2N{P:Prop}(h:P:=by
 go_wp2
 go_roundw
 case rel=>exact ⟨k+1,4294967296,q,V0,V0,V7,rfl,rfl,V0,Hi (by rw [HI.out,HS'.out,Nat.min_eq_right hbig]),rfl⟩
 case measure=>simp [intOf];omega):P:=h
theorem V2O{P:Prop}(h:P:=by exact q3C (c:=tw r) (fun ps r1 h1=>q0H fun r2 h2=>ct_ok (by simp only [bC,q16,q2h,q3D,List.length_nil];omega) fun h=>h.elim) [] r V0W):P:=h
theorem V2P{P:Prop}(h:P:=by
 rintro e w6 ⟨rfl,hb6⟩;have HB6:=Hi (HB5.out.trans (hb6.mono HB5.out.size));clear hb6;rw [<-show some a=res from HRES2.out];exact ⟨rfl,rfl,HB6.out⟩):P:=h
theorem V0N{P:Prop}(h:P:=by
 simp only [init,initR,Kn.put];by_cases e:s=sel <;> simp [e]):P:=h
theorem V2Q{P:Prop}(h:P:=by
 subst e;rw [if_pos rfl];refine ⟨Maps.has_put_same h1.isMap (isKeyS _) _,fun m' hm' z=>?_⟩;cases hm';exact Maps.atKey_put_same h1.isMap (isKeyS _) _ _):P:=h
theorem V2R{P:Prop}(h:P:=by
 by_cases hjk:j=k
 ·subst hjk;exact hjun
 ·rw [Array.getD_eq_getD_getElem?,Array.getElem?_setIfInBounds_ne hjk,<-Array.getD_eq_getD_getElem?] at hun;exact hun):P:=h
theorem VL{P:Prop}(h:P:=by rw [List.length_take];omega):P:=h
theorem Vc{P:Prop}(h:P:=by simp at h):P:=h
theorem Vo{P:Prop}(h:P:=by simpa using hx):P:=h
theorem Vu{P:Prop}(h:P:=by rw [hb];simp;omega):P:=h
theorem Va{P:Prop}(h:P:=by simpa using h):P:=h
theorem V7{P:Prop}(h:P:=by go_num):P:=h
theorem Ve{P:Prop}(h:P:=by rw [hb,e]):P:=h
theorem VE{P:Prop}(h:P:=by rw [List.getElem?_map,hp];rfl):P:=h
theorem V02{P:Prop}(h:P:=by simp [ai,Value.oneCell']):P:=h
theorem VF{P:Prop}(h:P:=by have:=HM.out;omega):P:=h
theorem V1m{P:Prop}(h:P:=by intro v hSw;have hG:=HVz.out.blk.upd hSw HGV.out;have D_:=Aa.c6 hG;clear hSw hG;go_simp;try with_reducible rfl):P:=h
theorem V2S{P:Prop}(h:P:=by rw [<-AL.out];exact ⟨rfl,dm (dm HUd.out (Upd.of_below hb5 fun _=>False) fun _ h=>h.elim) (Upd.of_below hb6 fun _=>False) fun _ h=>h.elim⟩):P:=h
theorem V0O{P:Prop}(h:P:=by intro v hSw;have hA:=HXd.out.upd hSw HNM.out;have E_:=Aa.c6 hA;clear hSw hA;go_simp;try with_reducible rfl):P:=h
theorem V03{P:Prop}(h:P:=by rw [List.getElem?_map,hx];rfl):P:=h
theorem VM{P:Prop}(h:P:=by intro v hSw;subst hSw;go_simp;try with_reducible rfl):P:=h
theorem V1n{P:Prop}(h:P:=by have h:=HL.out;exact h.below (Ay.out.trans (HY.out.up.below Ay.out.size fun b hb=>HNN.out b hb))):P:=h
theorem Vw{P:Prop}(h:P:=by rw [List.length_map];omega):P:=h
theorem V2T{P:Prop}(h:P:=by intro v hSw;obtain ⟨_,hA,_⟩:=(HY.out.below hSw).rv.blk;obtain ⟨⟨c0,c1,c2,c3,c4,c5,c6,c7,c8,c9⟩,f5,f6⟩:=EV.c10 hA;rw [HV1.out] at c1;rw [HV2.out] at c2;clear hSw hA;go_simp;try with_reducible rfl):P:=h
theorem V2U{P:Prop}(h:P:=by intro v hSw;obtain ⟨bq,hbq,_⟩:=HY2.out.rv.blk;have hA:=hbq.upd hSw HGV.out;have C_:=EV.c10 hA;clear hSw hA hbq;go_simp;try with_reducible rfl):P:=h
theorem V1o{P:Prop}(h:P:=by rw [<-hw0];exact ((Upd.refl (fun b=>b=bp) w).setCell (fun _=>rfl) _).alloc _):P:=h
theorem Vf{P:Prop}(h:P:=by rw [hr2];simp):P:=h
theorem VN{P:Prop}(h:P:=by simp [bG,Value.oneCell']):P:=h
theorem Vb{P:Prop}(h:P:=by cases e;omega):P:=h
theorem Vj{P:Prop}(h:P:=by rw [hi,hs];decide):P:=h
theorem Vp{P:Prop}(h:P:=by simp only [List.length_cons];omega):P:=h
theorem V2V{P:Prop}(h:P:=by intro v hSw;have hbv:=HB0d.out.trans (hSw.mono HB0d.out.size);obtain ⟨g0,g1,g2,g3,g4,g5⟩:=HX0.out v hbv;have hgb:=Nat.lt_of_lt_of_le HLB.out hbv.size;clear hSw hbv;go_simp;try with_reducible rfl):P:=h
theorem V04{P:Prop}(h:P:=by show ¬ l5 < _;have:=HSD.out;omega):P:=h
theorem V2W{P:Prop}(h:P:=by intro v hSw;have hG:=HGz.out.blk.upd hSw HGV.out;obtain ⟨c0,c1,c2,c3,c4,c5,c6⟩:=Aa.c7 hG;have hga:=hG.lt;clear hSw hG;go_simp;try with_reducible rfl):P:=h
theorem V2X{P:Prop}(h:P:=by intro v hSw;have hA:=HLz.out.upd hSw HNL.out;obtain ⟨d0,d1,d2,f0,f1,f2⟩:=fst3 hA;have hga:=hA.lt;clear hSw hA;go_simp;try with_reducible rfl):P:=h
theorem V2Y{P:Prop}(h:P:=by intro v hSw;have hA:=HGy.out.blk.upd hSw HNG.out;obtain ⟨q0,q1,q2,q3,q4,q5,q6⟩:=Aa.c7 hA;have hga:=hA.lt;clear hSw hA;go_simp;try with_reducible rfl):P:=h
theorem V0P{P:Prop}(h:P:=by intro v hSw;have hA:=HXd.out.upd hSw HN.out;obtain ⟨d0,d1,f0,f1⟩:=q6Z hA;have hga:=hA.lt;clear hSw hA;go_simp;try with_reducible rfl):P:=h
theorem VO{P:Prop}(h:P:=by obtain ⟨t3,r3,h3⟩:=hgr.cons;rw [h3];simp):P:=h
theorem V0m{P:Prop}(h:P:=by simp only [List.length_cons] at hl hl';omega):P:=h
theorem V0n{P:Prop}(h:P:=by simp only [List.length_cons] at hl' ⊢;omega):P:=h
theorem V05{P:Prop}(h:P:=by rw [<-hS];exact HX.out.set 1 (.string ⟨S.toArray⟩)):P:=h
theorem V1p{P:Prop}(h:P:=by repeat (first | with_reducible exact HZB.out | with_reducible apply Aa.drew | with_reducible refine Aa.far ?_ hne _)):P:=h
theorem V2Z{P:Prop}(h:P:=by
 refine HT.m 16 aa ?_;refine HT.m 17 aa ?_;refine HT.s 18 aa ?_;refine HT.s 19 aa ?_;refine HT.s 20 aa ?_;refine HT.s 21 aa ?_;refine HT.s 22 aa ?_;refine HT.s 23 aa ?_;refine HT.s 24 aa ?_;exact V2u):P:=h
theorem V30{P:Prop}(h:P:=by
 refine HT.m 16 aa ?_;refine HT.m 17 aa ?_;refine HT.s 18 aa ?_;refine HT.s 19 aa ?_;refine HT.s 20 aa ?_;refine HT.s 21 aa ?_;refine HT.s 22 aa ?_;refine HT.s 23 aa ?_;refine HT.s 24 aa ?_;exact V2n):P:=h
theorem V31{P:Prop}(h:P:=by
 refine HT.m 14 aa ?_;refine HT.m 15 aa ?_;refine HT.s 16 aa ?_;refine HT.s 17 aa ?_;refine HT.s 18 aa ?_;refine HT.s 19 aa ?_;refine HT.s 20 aa ?_;refine HT.s 21 aa ?_;exact V2r):P:=h
theorem V32{P:Prop}(h:P:=by
 clear hlt hb' hw hrn hcs hl hL h0 hA;go_enter Tryz.func202,Tryz.ntmps202;go_wp2_with fail
 refine HL.out.mono ?_;rintro e w' ⟨rfl,rfl⟩;go_wp2_with fail
 refine HR.out.mono ?_;exact V01):P:=h
theorem V1q{P:Prop}(h:P:=by rw [l5,if_neg V0,if_neg (by rw [(par_k ht).1];decide),if_neg (par_k ht).2,if_pos ht]):P:=h
theorem V33{P:Prop}(h:P:=by
 induction S with
 | nil=>rfl
 | cons c r ih=>
  rw [q0g];split
  ·rename_i hc;rw [List.take_succ_cons,List.all_cons,hc,ih];rfl
  ·rfl):P:=h
theorem V0o{P:Prop}(h:P:=by
 go_enter Tryz.func179,Tryz.ntmps179;exact VY):P:=h
theorem V1r{P:Prop}(h:P:=by
 clear hR hU;go_wp2_with fail
 exact ⟨rfl,.inr ⟨_,_,rfl,HR.out,Aw.out⟩⟩):P:=h
theorem V1s{P:Prop}(h:P:=by
 clear hE2 hu2 HC e0 e1 e2 e3 e4 e5 z0 z1 z2 z3 z4 z5 g0 g1 g2 g3 g4 g5;exact V1f):P:=h
theorem V34{P:Prop}(h:P:=by
 rintro e w2 ⟨rfl,hb2⟩;have HB2:=Hi (HB1.out.trans (hb2.mono HB1.out.size));clear hb2;go_wp2_with fail
 exact ⟨rfl,rfl,q01 HB2.out⟩):P:=h
theorem V1t{P:Prop}(h:P:=by
 rintro e w' ⟨rfl,rfl⟩;go_wp2_with fail
 go_ret3
 exact HL.out _ HBE.out):P:=h
theorem V1u{P:Prop}(h:P:=by
 rintro e w1 ⟨rfl,rfl⟩;go_wp2_with fail
 go_ret;exact ⟨rfl,HB.out⟩):P:=h
theorem V0p{P:Prop}(h:P:=by
 go_enter Tryz.func49,Tryz.ntmps49;exact VY):P:=h
theorem V35{P:Prop}(h:P:=by
 have hg:g < w.heap.size:=(Array.getElem?_eq_some_iff.1 h4).1;exact .inr ⟨g,cap,cur,e1,h3,(hu.block _ hg (hX g (by rw [e1];rfl))).trans h4,h5⟩):P:=h
theorem V1v{P:Prop}(h:P:=by simp [dz,signs1,List.isPrefixOf,List.find?,ha,ha']):P:=h
theorem V36{P:Prop}(h:P:=by
 have HR:=Hi hR;have HU:=Hi hU;clear hR hU;go_wp2_with fail
 exact ⟨rfl,.inr ⟨a,er,rfl,HR.out,(q01 HB0.out).trans HU.out⟩⟩):P:=h
theorem V1w{P:Prop}(h:P:=by
 rcases h with h | h
 ·exact Nat.lt_irrefl _ h.2
 ·have:=HSN.out;omega):P:=h
theorem V37{P:Prop}(h:P:=by exact ⟨(Maps.has_del_other (q1T e)).trans (h2 t ht).1,fun m' hm' z=>(Maps.atKey_del_other (q1T e) _).trans ((h2 t ht).2 m' hm' z)⟩):P:=h
theorem V38{P:Prop}(h:P:=by
 rcases h with h | h | h | h
 ·have h':b=g0+7:=h;omega
 ·have h':b=g0+4:=h;omega
 ·have h':b=g0+5:=h;omega
 ·cases h):P:=h
theorem V39{P:Prop}(h:P:=by
 obtain ⟨c1,h1,h2⟩:=q2l h;cases h2;exact ⟨(q3k h1).1.trans (Ext.same rfl rfl),(show AQ c1.kn from q3S h1 hs)⟩):P:=h
theorem V3b{P:Prop}(h:P:=by
 clear hk;go_enter Tryz.func182,Tryz.ntmps182;go_wp2_with fail
 refine (HL.out _).mono ?_;rintro e w' ⟨rfl,rfl⟩;exact VY):P:=h
theorem V3c{P:Prop}(h:P:=by
 subst hpa;have HR:=Hi (show l.contains a=true from List.contains_iff_mem.2 (List.mem_of_getElem? hp));clear hc1 f1 hp;exact V4o):P:=h
theorem V3d{P:Prop}(h:P:=by
 show ((c.kn.put s v) t).isSome=true;unfold Kw.put;by_cases e:t=s
 ·rw [if_pos e];rfl
 ·rw [if_neg e];exact HGd.out.dom t ht):P:=h
theorem V3e{P:Prop}(h:P:=by
 rw [if_neg V0,if_neg V0];obtain ⟨c1,h1,h2⟩:=q2l h;cases h2;exact ⟨show Jf c1.kn fu from Jf.in_ h1 hj,Kf.refl _ _⟩):P:=h
theorem V3f{P:Prop}(h:P:=by
 have h:W0.ownsRow lo 9 1 (v 1) d.var.length (d.var.map ai):=(HY.out.below hb0).rv.own 1 V2;rw [HV1.out] at h;exact q0o h):P:=h
theorem V3g{P:Prop}(h:P:=by
 clear hc1 f1 hp hpa;go_wp2_with fail
 go_roundw
 case rel=>exact ⟨i+1,V0,V7,HH,HN⟩
 case measure=>simp [intOf];omega):P:=h
theorem V0Q{P:Prop}(h:P:=by
 conv=>lhs;unfold pF
 simp only;rw [if_pos ht]):P:=h
theorem V3h{P:Prop}(h:P:=by
 unfold pF;cases l with
 | nil=>exact le_refl _
 | cons t r=>exact q15 (q1n (ih _ _ _) fun ys r=>ih _ _ _) (le_refl _)):P:=h
theorem V3i{P:Prop}(h:P:=by
 have:=q8G (.mk 13 (hdA (af s).l) [] 0 [] zs);rw [q2h] at this;simp only [q1y,List.length_nil] at this;omega):P:=h
theorem V3j{P:Prop}(h:P:=by
 have:y=x:=Va;subst this;rw [List.flatMap_cons,List.getElem?_append_left (by show 0 * 3+j < 3;omega)]
 congr 1;omega):P:=h
theorem V3k{P:Prop}(h:P:=by
 gi_wp2
 refine ⟨V3,.inl ⟨_,_,rfl,run_takeDeferred HK.out,?_⟩⟩;exact ⟨_,q8A HR9.out _ rfl rfl rfl,HP.out⟩):P:=h
theorem VP{P:Prop}(h:P:=by rw [if_pos hb] at h2;cases h2):P:=h
theorem V3l{P:Prop}(h:P:=by
 rcases h1.2 with ⟨h,_⟩ | ⟨g',cap,cur,h,_⟩
 ·cases h
 ·exact fun j u hj=>⟨_,rfl,h1.cells (g:=g) rfl j u hj⟩):P:=h
theorem V1x{P:Prop}(h:P:=by
 conv=>lhs;unfold pF
 simp only;rw [if_neg (by rw [ht];decide)]):P:=h
theorem V1y{P:Prop}(h:P:=by
 clear hb5;go_wp2_with fail
 go_ret;exact ⟨rfl,HB5.out⟩):P:=h
theorem V3m{P:Prop}(h:P:=by
 rcases h with h | h
 ·exact q2H (hv.bY _ V3 _ h) HSN.out rfl
 ·exact q2H (hv.bY _ V3 g rfl) HSN.out h):P:=h
theorem V3n{P:Prop}(h:P:=by
 obtain ⟨zs',e3,h3,t3,r3,e4,hk3⟩:=h;simp only [List.cons.injEq] at e4;rw [e4.1] at hk;exact absurd hk3 hk):P:=h
theorem V3o{P:Prop}(h:P:=by
 have:l.drop k=[]:=List.drop_eq_nil_of_le V0;rw [this] at h5;unfold Am at h5;rw [h5];exact Af.nil _ _):P:=h
theorem V06{P:Prop}(h:P:=by exact World.ownsRow_nil _ _ _ _):P:=h
theorem V1z{P:Prop}(h:P:=by
 cases hk;exact absurd hs (by show ¬ g < w.heap.size;omega)):P:=h
theorem V3p{P:Prop}(h:P:=by exact q1e 2 t.at_ 0 1 1 0 0 t.s _ none hlt he (q56 hd HON.out hR) ((hP.below HB5.out).below HB57.out) hU7):P:=h
theorem V3q{P:Prop}(h:P:=by exact q5E (lo:=w.heap.size+1) hlt (Nat.lt_succ_self _) hN (hE8 _ (q0a _)) (hq8.below HB8.out) hg8 Vp hU10):P:=h
theorem V3r{P:Prop}(h:P:=by
 clear hd hq hc ho HQ;go_wp2_with fail
 refine (HK.out _).mono ?_;rintro e w' ⟨rfl,rfl⟩;exact V0K):P:=h
theorem V0R{P:Prop}(h:P:=by
 obtain ⟨t,r,rfl⟩:=hg.cons;simp at hl):P:=h
theorem V3s{P:Prop}(h:P:=by
 go_wp2_with fail
 go_ret;exact ⟨(congrArg (fun b=>Ending.returned (Value.bool b)) HR.out).symm,rfl⟩):P:=h
theorem V3t{P:Prop}(h:P:=by
 go_wp2_with fail
 go_ret;exact ⟨(congrArg (fun b=>Ending.returned (Value.int .i64 b)) HR.out),rfl⟩):P:=h
theorem V3u{P:Prop}(h:P:=by
 go_wp2_with fail
 go_roundw
 case rel=>exact ⟨j+1,V0,V7,H3⟩
 case measure=>simp [intOf];omega):P:=h
theorem V0S{P:Prop}(h:P:=by rw [ha] at e;cases e;have:=h.blk.lt;omega):P:=h
theorem V3v{P:Prop}(h:P:=by
 go_wp2_with fail
 go_round
 case rel=>exact ⟨m,V0,V7,HN⟩
 case measure=>simp [intOf];omega):P:=h
theorem V3w{P:Prop}(h:P:=by
 unfold cK;by_cases hji:j=i
 ·rw [if_pos hji];exact hug
 ·rw [if_neg hji];exact h.far j hj):P:=h
theorem V3x{P:Prop}(h:P:=by
 clear hd hq1 HJ;clear hlj hnj hlb;go_wp2_with fail
 refine (HLJ.out _).mono ?_;exact V1c):P:=h
theorem V1B{P:Prop}(h:P:=by
 intro e w4 h4;have h4':=h4.from HU.out;exact V2d):P:=h
theorem V3z{P:Prop}(h:P:=by
 unfold aW;rw [hl,hn,if_neg V2,if_neg V2,<-drop_at s i hlt,if_neg h3,if_neg h2,if_pos h1]):P:=h
theorem V1C{P:Prop}(h:P:=by
 go_wp2_with fail
 go_ret;exact ⟨rfl,HB2.out⟩):P:=h
theorem V07{P:Prop}(h:P:=by rw [if_pos hb] at h;cases h):P:=h
theorem V0q{P:Prop}(h:P:=by show ¬ (150:Nat) = 0;decide):P:=h
theorem V0r{P:Prop}(h:P:=by rw [List.length_drop];omega):P:=h
theorem Vx{P:Prop}(h:P:=by cases hk;rfl):P:=h
theorem VG{P:Prop}(h:P:=by cases e;rfl):P:=h
theorem V1D{P:Prop}(h:P:=by obtain ⟨_,_,_,_,_,_,_,_,_,_,rfl⟩:=q1V h2;rfl):P:=h
theorem V3A{P:Prop}(h:P:=by have:=q0S (k:=k) (a:=a) (n:=n) (s:=s) (ps:=ps) hy;have:=HM.out;omega):P:=h
theorem V0T{P:Prop}(h:P:=by rw [h] at hr;cases hr):P:=h
theorem V0U{P:Prop}(h:P:=by rw [hr] at h0;(cases h0)):P:=h
theorem V8{P:Prop}(h:P:=by rfl):P:=h
theorem V3B{P:Prop}(h:P:=by rw [<-Ad.out];exact ⟨rfl,dm Aj.out (Upd.of_below hb2 fun _=>False) fun _ h=>h.elim⟩):P:=h
theorem V1E{P:Prop}(h:P:=by intro u hu;obtain ⟨x,_,rfl⟩:=List.mem_map.1 hu;rfl):P:=h
theorem V1F{P:Prop}(h:P:=by rw [List.take_zero,q1Y];exact h0):P:=h
theorem V1G{P:Prop}(h:P:=by rw [<-hW6];exact (Below.refl _ _).alloc (Nat.le_refl _) _):P:=h
theorem V3C{P:Prop}(h:P:=by intro v hSw;have hA:=HKI.out.upd hSw hgig;have C_:=EV.c10 hA;clear hSw hA;go_simp;try with_reducible rfl):P:=h
theorem V3D{P:Prop}(h:P:=by intro v hSw;have hA:=HY2.out.bx.upd hSw HNV.out;have E_:=Aa.c6 hA;clear hSw hA;go_simp;try with_reducible rfl):P:=h
theorem V1H{P:Prop}(h:P:=by rw [<-hW17];exact (Below.refl _ _).alloc (Nat.le_refl _) _):P:=h
theorem V1I{P:Prop}(h:P:=by rw [<-hW17];exact q06 _ _ [intV ps.length]):P:=h
theorem V3E{P:Prop}(h:P:=by intro v hSw;have hA:=HXy.out.upd hSw HNV.out;have E_:=Aa.c6 hA;clear hSw hA;go_simp;try with_reducible rfl):P:=h
theorem VQ{P:Prop}(h:P:=by simpa using hp):P:=h
theorem VR{P:Prop}(h:P:=by simp [go_sem]):P:=h
theorem VH{P:Prop}(h:P:=by have:=HG0.out;omega):P:=h
theorem V1J{P:Prop}(h:P:=by rw [<-hw2];exact (Below.refl _ _).alloc (Nat.le_refl _) _):P:=h
theorem VS{P:Prop}(h:P:=by rw [<-hw2];simp):P:=h
theorem V1K{P:Prop}(h:P:=by rw [<-hw3];exact (Below.refl _ _).alloc (Nat.le_refl _) _):P:=h
theorem V1L{P:Prop}(h:P:=by rw [q0s V0,q0s V0];decide):P:=h
theorem VT{P:Prop}(h:P:=by simpa using h1):P:=h
theorem V0s{P:Prop}(h:P:=by simp [Value.oneCell']):P:=h
theorem V0t{P:Prop}(h:P:=by rw [List.length_append];rfl):P:=h
theorem V1M{P:Prop}(h:P:=by rw [<-hw0,<-hsz];exact Aa.new _ _ _):P:=h
theorem V0V{P:Prop}(h:P:=by have:=(q0Q how).1;omega):P:=h
theorem V1N{P:Prop}(h:P:=by have:=HH.out.lt;simp at this ⊢;omega):P:=h
theorem V0u{P:Prop}(h:P:=by unfold ak;simp [hk]):P:=h
theorem V3F{P:Prop}(h:P:=by have:=run_endLoop (P:=P) hl (by rw [hrec];simp);rw [hrec] at this;exact this):P:=h
theorem V0v{P:Prop}(h:P:=by rw [q1x];omega):P:=h
theorem V08{P:Prop}(h:P:=by intro e;injection e;omega):P:=h
theorem V0w{P:Prop}(h:P:=by simp only [bC];omega):P:=h
theorem V0W{P:Prop}(h:P:=by simp only [q1y];omega):P:=h
theorem VU{P:Prop}(h:P:=by have:=HS1.out;omega):P:=h
theorem V1O{P:Prop}(h:P:=by rcases hb with h | h <;> (have:=HG.out;have:=HG'.out;omega)):P:=h
theorem V0x{P:Prop}(h:P:=by have:=hsz.out;omega):P:=h
theorem V09{P:Prop}(h:P:=by simp [adD] at h):P:=h
theorem V1P{P:Prop}(h:P:=by rw [<-Ad.out,if_neg V2,if_pos rfl]):P:=h
theorem V3G{P:Prop}(h:P:=by intro v hSw;have hA:=HXD.out.below hSw HXD.out.lt;have E_:=Aa.c6 hA;have hga:=hA.lt;clear hSw hA;go_simp;try with_reducible rfl):P:=h
theorem V3H{P:Prop}(h:P:=by intro v hSw;have hA:=HFd.out.upd hSw HNF.out;have E_:=Aa.c6 hA;have hga:=hA.lt;clear hSw hA;go_simp;try with_reducible rfl):P:=h
theorem V1Q{P:Prop}(h:P:=by have:=q6V (k:=k) (a:=a) (n:=n) (s:=s) (ps:=ps) hy;omega):P:=h
theorem V3I{P:Prop}(h:P:=by intro v hSw;have hA:=HPy.out.upd hSw HNA.out;have E_:=Aa.c6 hA;have hga:=hA.lt;clear hSw hA;go_simp;try with_reducible rfl):P:=h
theorem V3J{P:Prop}(h:P:=by intro v hSw;have hA:=(HAy.out.below hb6 HAy.out.lt).lt;clear hSw;go_simp;try with_reducible rfl):P:=h
theorem V3K{P:Prop}(h:P:=by obtain ⟨mf,hf⟩:=HG0.out.fun_;have:=hf.lt;have:=HAB.out;omega):P:=h
theorem V3L{P:Prop}(h:P:=by show _=Ending.returned (resN (numR 10 (List.drop 0 s.data.toList)));rw [HF.out];rfl):P:=h
theorem V3M{P:Prop}(h:P:=by show _=Ending.returned (resN (numR 16 (List.drop 2 s.data.toList)));rw [HF.out];rfl):P:=h
theorem V1R{P:Prop}(h:P:=by show ¬ w5.heap.size < w.heap.size;omega):P:=h
theorem V0y{P:Prop}(h:P:=by unfold onS;simp [hk4]):P:=h
theorem V0z{P:Prop}(h:P:=by simp only [hs];exact h):P:=h
theorem VV{P:Prop}(h:P:=by have:=HQ.out;omega):P:=h
theorem V3N{P:Prop}(h:P:=by rw [hW6];exact AR.out.setCell (p:=⟨wr.heap.size,0,none⟩) (fun h=>absurd h (Nat.lt_irrefl _)) _):P:=h
theorem V3O{P:Prop}(h:P:=by have:=hwd W;rwa [show aA (⟨X.toArray⟩:ByteArray).data.toList=false from hwb] at this):P:=h
theorem V3P{P:Prop}(h:P:=by rw [show aU true (s.data.toList.drop (i+1))=m - 1 from VF,<-HXC.out,hwb];decide):P:=h
theorem V3Q{P:Prop}(h:P:=by rw [<-hw6];exact (Upd.refl (fun b=>b=gm) w5).setCell (p:=⟨gm,2,none⟩) (fun _=>rfl) _):P:=h
theorem V0A{P:Prop}(h:P:=by have:=HG.out;have:=HG'.out;omega):P:=h
theorem V3R{P:Prop}(h:P:=by
 subst hji;unfold cK;rw [if_pos rfl];exact ae hown hs fun b hb e=>hug Ve):P:=h
theorem V1S{P:Prop}(h:P:=by exact ⟨hb,(Array.getElem?_eq_some_iff.1 hh).1⟩):P:=h
theorem V0a{P:Prop}(h:P:=by exact Nat.le_trans hj' V0):P:=h
theorem V3S{P:Prop}(h:P:=by
 have HF:=Hi hfin;clear hfin
 go_wp2
 go_ret2
 exact ⟨by rw [HF.out];rfl,rfl⟩):P:=h
theorem V3T{P:Prop}(h:P:=by
 rw [hk];unfold Kn.put;rw [if_neg (fun e=>by subst e;rw [hn] at ht;cases ht)];exact ht):P:=h
theorem V0X{P:Prop}(h:P:=by rw [ha] at hb;cases hb;exact .inr hn):P:=h
theorem V3U{P:Prop}(h:P:=by exact ⟨⟨_,rfl⟩,.inr ⟨_,⟨[],by rw [List.append_nil];exact HPR.out⟩,hJx3⟩⟩):P:=h
theorem V3V{P:Prop}(h:P:=by
 show (l (.string t) && !(Lit.string t).sameKey (.string s))=_;rw [h3 t ht,q7Z]):P:=h
theorem V3W{P:Prop}(h:P:=by
 rw [hX,drop_at s i hlt];obtain ⟨m',rfl⟩:∃ m',m=m'+1:=⟨m - 1,VF⟩;rfl):P:=h
theorem V3X{P:Prop}(h:P:=by
 clear hR hU;go_wp2_with fail
 exact ⟨rfl,.inr ⟨_,_,rfl,HR.out,HU11.out⟩⟩):P:=h
theorem V1T{P:Prop}(h:P:=by
 go_ret2
 exact ⟨by simp [shV,shC,n0],rfl⟩):P:=h
theorem V1U{P:Prop}(h:P:=by
 go_enter Tryz.func183,Tryz.ntmps183;exact VY):P:=h
theorem V3Y{P:Prop}(h:P:=by
 clear hR hU;go_wp2_with fail
 exact ⟨rfl,.inr ⟨_,_,rfl,HR.out,HU6.out⟩⟩):P:=h
theorem V3Z{P:Prop}(h:P:=by
 have e:(w.alloc (.cells cs 26)).heap.size=w.heap.size+1:=V3;rw [e] at h;exact h):P:=h
theorem V1V{P:Prop}(h:P:=by rw [Nat.add_assoc];exact hc _ _ (g2.trans rfl)):P:=h
theorem V1W{P:Prop}(h:P:=by rw [Nat.add_assoc];exact hc _ _ (g1.trans rfl)):P:=h
theorem V40{P:Prop}(h:P:=by
 clear bn;go_wp2_with fail
 exact ⟨rfl,.inr ⟨_,_,rfl,HR.out,AR.out⟩⟩):P:=h
theorem VW{P:Prop}(h:P:=by
 clear aF;exact Vk):P:=h
theorem V41{P:Prop}(h:P:=by
 have ha':((60:UInt8)==a)=false:=beq_eq_false_iff_ne.2 (Ne.symm ha);exact V1v):P:=h
theorem V1X{P:Prop}(h:P:=by
 go_enter Tryz.func50,Tryz.ntmps50;exact VY):P:=h
theorem V0Y{P:Prop}(h:P:=by rw [e] at hb;exact .inl (n2 b hb)):P:=h
theorem V0Z{P:Prop}(h:P:=by rw [e] at hb;exact .inl (n1 b hb)):P:=h
theorem V10{P:Prop}(h:P:=by rw [e] at hb;exact .inl (n0 b hb)):P:=h
theorem V42{P:Prop}(h:P:=by first | exact h | exact q8p h | (split <;> first | exact h | exact q8p h)):P:=h
theorem V1Y{P:Prop}(h:P:=by
 show au (l.drop i)<=nbz x+au l;omega):P:=h
theorem V43{P:Prop}(h:P:=by
 rw [PS.len HJ8.out.ps,PS.len HH.out.ps];simp only [List.length_cons];omega):P:=h
theorem V44{P:Prop}(h:P:=by exact q1e 10 t.at_ 0 1 1 0 0 sn _ none hlt he8 hE8 (hq8.below HB8.out) hU10):P:=h
theorem V45{P:Prop}(h:P:=by
 cases l with
 | nil=>exact absurd rfl hl
 | cons x l=>exact ⟨x,rfl⟩):P:=h
theorem V46{P:Prop}(h:P:=by have q0:=HS0.out;have q6:=HS6.out;have hb':a6=b:=Option.some.inj hb;omega):P:=h
theorem V1Z{P:Prop}(h:P:=by show ¬ (100:Nat) = 0;decide):P:=h
theorem V0B{P:Prop}(h:P:=by simpa using hu):P:=h
theorem V47{P:Prop}(h:P:=by have:=(List.getElem?_eq_some_iff.1 hj).1;omega):P:=h
theorem V0C{P:Prop}(h:P:=by unfold AJ;rfl):P:=h
theorem V11{P:Prop}(h:P:=by have:=hX b hx;omega):P:=h
theorem VI{P:Prop}(h:P:=by cases e):P:=h
theorem V0D{P:Prop}(h:P:=by simpa using e):P:=h
theorem V12{P:Prop}(h:P:=by rw [hb];simp [h1,h2]):P:=h
theorem V0b{P:Prop}(h:P:=by simp [aY]):P:=h
theorem V48{P:Prop}(h:P:=by rw [<-hwm];exact (Below.refl _ _).alloc (Nat.le_refl _) _):P:=h
theorem V20{P:Prop}(h:P:=by rw [<-Ad.out,<-HQ.out];rfl):P:=h
theorem V21{P:Prop}(h:P:=by rw [List.take_add_one,h];rfl):P:=h
theorem V49{P:Prop}(h:P:=by show (d.se ++ ps).length<=_;rw [List.length_append];omega):P:=h
theorem V4a{P:Prop}(h:P:=by show (d.pu ++ ps).length<=_;rw [List.length_append];omega):P:=h
theorem V22{P:Prop}(h:P:=by rcases hk with rfl | rfl <;> rfl):P:=h
theorem V4b{P:Prop}(h:P:=by rw [<-hW0];exact (Below.refl _ _).alloc (Nat.le_refl _) _):P:=h
theorem V4c{P:Prop}(h:P:=by rw [<-hW8];exact (Below.refl _ _).alloc (Nat.le_refl _) _):P:=h
theorem V4d{P:Prop}(h:P:=by intro u hu;obtain ⟨p,_,rfl⟩:=List.mem_map.1 hu;rfl):P:=h
theorem V4e{P:Prop}(h:P:=by rw [<-hw5];exact (Below.refl _ _).alloc (Nat.le_refl _) _):P:=h
theorem V4f{P:Prop}(h:P:=by intro e;apply h;have:=congrArg List.length e;simpa using this):P:=h
theorem V23{P:Prop}(h:P:=by rw [eq_of_beq hc];decide):P:=h
theorem V13{P:Prop}(h:P:=by simp at hr ⊢;omega):P:=h
theorem V4g{P:Prop}(h:P:=by rw [show k - 1+(6 - k) = 5 from V0];exact hR):P:=h
theorem V0E{P:Prop}(h:P:=by rw [hs];decide):P:=h
theorem V14{P:Prop}(h:P:=by show n+1≠n;omega):P:=h
theorem V15{P:Prop}(h:P:=by rw [<-HPR.out];simp):P:=h
theorem V0F{P:Prop}(h:P:=by assumption):P:=h
theorem V16{P:Prop}(h:P:=by have:=x.isLt;omega):P:=h
theorem V24{P:Prop}(h:P:=by rw [<-Ad.out,if_pos rfl]):P:=h
theorem V4h{P:Prop}(h:P:=by show m+ps.length+c.rd * 134217728<=m+cost+c.rd * 134217728;omega):P:=h
theorem V0G{P:Prop}(h:P:=by rw [<-hwf];simp):P:=h
theorem V0H{P:Prop}(h:P:=by rw [n0];decide):P:=h
theorem V17{P:Prop}(h:P:=by rw [n1];decide):P:=h
theorem V25{P:Prop}(h:P:=by unfold onB;simp [hlb,hnb]):P:=h
theorem V4i{P:Prop}(h:P:=by rw [hW6];exact ((Upd.refl _ _).alloc _).alloc _):P:=h
theorem V4j{P:Prop}(h:P:=by have:=(Nm.av hL5 b hb).1;have:=HY4.out.lt;omega):P:=h
theorem VX{P:Prop}(h:P:=by cases h):P:=h
theorem V18{P:Prop}(h:P:=by rw [<-hw5];simp):P:=h
theorem V26{P:Prop}(h:P:=by have:=hr _ e.symm;omega):P:=h
theorem V4k{P:Prop}(h:P:=by cases e;exact ⟨Nat.zero_le _,_,hk2,rfl⟩):P:=h
theorem V4l{P:Prop}(h:P:=by have:=HG0.out.bel.size;have:=HAB.out;omega):P:=h
theorem V4m{P:Prop}(h:P:=by rw [decide_eq_false V0,decide_eq_false V0]):P:=h
theorem V4n{P:Prop}(h:P:=by rw [HI.out,HS'.out,Nat.min_eq_left V0]):P:=h
theorem V27{P:Prop}(h:P:=by unfold bS nzs;trivial):P:=h
end
end Go.Proofs.YtcgibpdjfgjldaaGreatDoor
