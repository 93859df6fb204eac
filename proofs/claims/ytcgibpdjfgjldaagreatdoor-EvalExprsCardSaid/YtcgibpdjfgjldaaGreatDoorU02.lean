/- DERIVED. Av. By an AI agent. -/
import Derived.ProofKit
import Derived.OwnWalk
import Derived.LoopTactic
import Derived.IntWalk
import Derived.TacticsIn
import Derived.KernelRfl
import Derived.Tactics2
import Derived.Deep.Cut
import Derived.Deep.CutRange
import Derived.Deep.QuietTactic
namespace Go.Proofs.YtcgibpdjfgjldaaGreatDoor
section
theorem V2g{P:Prop}(h:P:=by
 have i2:(i:Int)+2<=(s.size:Int):=V0;have hs2:=q0j s i 2 ((i:Int)+2) V0 V0;obtain ⟨S2,hS2⟩:∃ S2,S2=(s.data.toList.drop i).take 2:=⟨_,rfl⟩;rw [<-hS2] at hs2;by_cases h2:(s.data.toList.drop i).take 2∈signs2
 ·have ht:tokC s[i] (s.data.toList.drop (i+1))=some (4,2):=by
   unfold tokC;rw [hl,hn,if_neg V2,if_neg V2,<-drop_at s i hlt,if_neg h3,if_pos h2]
  have HI2:=Hi (in3 S2 true (by rw [hS2];simpa using h2));clear hS2;go_wp2_with fail
  refine (HLE.out _).mono ?_;rintro e w' ⟨rfl,rfl⟩;go_wp2_with fail
  refine (HNU.out _).mono ?_;rintro e w' ⟨rfl,rfl⟩;go_wp2_with fail
  refine (HI2.out (wr.alloc (.cells #[.int .i64 4,.string ⟨#[]⟩,.int .i64 (i:Int)] 63)) (wr.heap.size+1) V3).mono ?_;rintro e w' ⟨rfl,rfl⟩;go_upto_region 26 with fail
  clear hs2;obtain ⟨W6,hW6⟩:∃ W6,W6=(wr.alloc (.cells #[.int .i64 4,.string ⟨#[]⟩,.int .i64 (i:Int)] 63)).alloc (.cells #[.string ⟨#[60,60]⟩,.string ⟨#[62,62]⟩,.string ⟨#[46,46]⟩] 9):=⟨_,rfl⟩;have HX:=Hi (show Blk W6 wr.heap.size 63 #[.int .i64 4,.string ⟨#[]⟩,.int .i64 (i:Int)] by rw [hW6];exact (Blk.new _ _ _).alloc _);have HU:=Hi (show Upd (fun _=>False) wr W6 from V4r);rw [<-hW6];clear hW6;have him:i+(2)<=s.size:=(q12 ht hlt).2;have hmid:=q0j s i (2) ((i:Int)+2) V0 him;obtain ⟨S,hS⟩:∃ S,S=(s.data.toList.drop i).take (2):=⟨_,rfl⟩;rw [<-hS] at hmid;have f1:W6.cell? ⟨wr.heap.size,1,none⟩=some (.string ⟨#[]⟩):=HX.out.cell 1;have f2:=HX.out.frozen 1;have HCUT:=Hi (show Cut1 s i wr 4 (2) (W6.setCell ⟨wr.heap.size,1,none⟩ (.string ⟨S.toArray⟩)) from ⟨hlt,ht,VW,HU.out.setCell (p:=⟨wr.heap.size,1,none⟩) (fun h=>absurd h (Nat.lt_irrefl _)) _⟩);clear hS ht;go_wp2_with fail
  go_meet
  exact ⟨4,2,by (try push_cast);rfl,HCUT⟩
 ·have HI2:=Hi (in3 S2 false (by rw [hS2];simpa using h2));clear hS2;have hs1:=q0j s i 1 ((i:Int)+1) V0 V0;rw [show (s.data.toList.drop i).take 1=[s[i]] by rw [drop_at s i hlt];rfl] at hs1;by_cases h1:s[i]∈signs1
  ·have ht:tokC s[i] (s.data.toList.drop (i+1))=some (4,1):=by
    exact V3I
   have HI1:=Hi (in13 s[i] true V0C);go_wp2_with fail
   refine (HLE.out _).mono ?_;rintro e w' ⟨rfl,rfl⟩;go_wp2_with fail
   refine (HNU.out _).mono ?_;rintro e w' ⟨rfl,rfl⟩;go_wp2_with fail
   refine (HI2.out (wr.alloc (.cells #[.int .i64 4,.string ⟨#[]⟩,.int .i64 (i:Int)] 63)) (wr.heap.size+1) V3).mono ?_;rintro e w' ⟨rfl,rfl⟩;go_wp2_with fail
   refine (HI1.out (((wr.alloc (.cells #[.int .i64 4,.string ⟨#[]⟩,.int .i64 (i:Int)] 63)).alloc (.cells #[.string ⟨#[60,60]⟩,.string ⟨#[62,62]⟩,.string ⟨#[46,46]⟩] 9))) (wr.heap.size+1+1) V3).mono ?_;rintro e w' ⟨rfl,rfl⟩;go_upto_region 26 with fail
   clear hs1;obtain ⟨W6,hW6⟩:∃ W6,W6=((wr.alloc (.cells #[.int .i64 4,.string ⟨#[]⟩,.int .i64 (i:Int)] 63)).alloc (.cells #[.string ⟨#[60,60]⟩,.string ⟨#[62,62]⟩,.string ⟨#[46,46]⟩] 9)).alloc (.cells #[.string ⟨#[61]⟩,.string ⟨#[59]⟩,.string ⟨#[44]⟩,.string ⟨#[40]⟩,.string ⟨#[41]⟩,.string ⟨#[123]⟩,.string ⟨#[125]⟩,.string ⟨#[43]⟩,.string ⟨#[45]⟩,.string ⟨#[38]⟩,.string ⟨#[124]⟩,.string ⟨#[94]⟩,.string ⟨#[126]⟩] 9):=⟨_,rfl⟩;have HX:=Hi (show Blk W6 wr.heap.size 63 #[.int .i64 4,.string ⟨#[]⟩,.int .i64 (i:Int)] by rw [hW6];exact ((Blk.new _ _ _).alloc _).alloc _);have HU:=Hi (show Upd (fun _=>False) wr W6 by rw [hW6];exact (((Upd.refl _ _).alloc _).alloc _).alloc _);exact V2z
  ·have HL:=Hi fun w' hb=>words_err' (q3I HH.out.2.2 hlt (by
    unfold tokC;rw [hl,hn,if_neg V2,if_neg V2,<-drop_at s i hlt,if_neg h3,if_neg h2,if_neg h1])) w w' hb
   have HBE:=Hi (show Below w.heap.size w (((wr.alloc (.cells #[.int .i64 4,.string ⟨#[]⟩,.int .i64 (i:Int)] 63)).alloc (.cells #[.string ⟨#[60,60]⟩,.string ⟨#[62,62]⟩,.string ⟨#[46,46]⟩] 9)).alloc (.cells #[.string ⟨#[61]⟩,.string ⟨#[59]⟩,.string ⟨#[44]⟩,.string ⟨#[40]⟩,.string ⟨#[41]⟩,.string ⟨#[123]⟩,.string ⟨#[125]⟩,.string ⟨#[43]⟩,.string ⟨#[45]⟩,.string ⟨#[38]⟩,.string ⟨#[124]⟩,.string ⟨#[94]⟩,.string ⟨#[126]⟩] 9)) from HH.out.2.1.trans (((((Upd.refl (fun _=>False) wr).alloc _).alloc _).alloc _).below hsz0 nofun));have HI1:=Hi (in13 s[i] false V0C);go_wp2_with fail
   refine (HLE.out _).mono ?_;rintro e w' ⟨rfl,rfl⟩;go_wp2_with fail
   refine (HNU.out _).mono ?_;rintro e w' ⟨rfl,rfl⟩;go_wp2_with fail
   refine (HI2.out (wr.alloc (.cells #[.int .i64 4,.string ⟨#[]⟩,.int .i64 (i:Int)] 63)) (wr.heap.size+1) V3).mono ?_;rintro e w' ⟨rfl,rfl⟩;go_wp2_with fail
   refine (HI1.out (((wr.alloc (.cells #[.int .i64 4,.string ⟨#[]⟩,.int .i64 (i:Int)] 63)).alloc (.cells #[.string ⟨#[60,60]⟩,.string ⟨#[62,62]⟩,.string ⟨#[46,46]⟩] 9))) (wr.heap.size+1+1) V3).mono ?_;exact V1C):P:=h
theorem V2h{P:Prop}(h:P:=by
 go_wp2_with fail
 refine HT1.out.mono ?_;rintro e w2 ⟨rfl,hp2,hu2⟩;have HP2:=Hi hp2;have HU2:=Hi (HU1.out.trans hu2);have HBX2:=Hi (HBX.out.upd hu2 V0);clear hp2 hu2 HT1 HBX HU1;go_upto_region 4 with fail
 obtain ⟨w3,hw3,hb3,hbt⟩:=alK w2 #[.int .i64 (t.k:Int),.string ⟨t.s.toArray⟩,.int .i64 (t.at_:Int)] 63;have hZ0:K3 w2.heap.size t w3.drew:=K3.of hbt.drew;rw [hw3];clear hw3;refine HT.wp_region (Z:=fun w'=>K3 w2.heap.size t w') (S:=fun _=>True) (st:=[]) V1 ?_;refine HT.takeP (i:=0) (v:=?_) rfl V1 V1 V1 V1 (fun _ _ _ h=>h) (Or.inl ⟨V6,?_⟩) hZ0 (fun _=>trivial) ?_;rotate_left
 ·exact VI
 (try simp only [HT.pS]);refine HT.takeP (i:=1) (v:=?_) rfl V1 V1 V1 V1 (fun _ _ _ h=>h) (Or.inl ⟨V6,?_⟩) hZ0 (fun _=>trivial) ?_;rotate_left
 ·exact VI
 (try simp only [HT.pS]);refine HT.takeP (i:=2) (v:=?_) rfl V1 V1 V1 V1 (fun _ _ _ h=>h) (Or.inl ⟨V6,?_⟩) hZ0 (fun _=>trivial) ?_;rotate_left
 ·exact VI
 (try simp only [HT.pS]);refine HT.takeP (i:=3) (v:=?_) rfl V1 V1 V1 V1 (fun _ _ _ h=>h) (Or.inl ⟨V6,?_⟩) hZ0 (fun _=>trivial) ?_;rotate_left
 ·exact VI
 (try simp only [HT.pS]);refine HT.takeP (i:=4) (v:=?_) rfl V1 V1 V1 V1 (fun _ _ _ h=>h) (Or.inl ⟨V6,?_⟩) hZ0 (fun _=>trivial) ?_;rotate_left
 ·exact VI
 (try simp only [HT.pS]);refine HT.takeP (i:=5) (v:=?_) rfl V1 V1 V1 V1 (fun _ _ _ h=>h) (Or.inl ⟨V6,?_⟩) hZ0 (fun _=>trivial) ?_;rotate_left
 ·exact VI
 (try simp only [HT.pS]);refine HT.takeP (i:=6) (v:=?_) rfl V1 V1 V1 V1 (fun _ _ _ h=>h) (Or.inl ⟨V6,?_⟩) hZ0 (fun _=>trivial) ?_;rotate_left
 ·exact VI
 (try simp only [HT.pS]);have hp3:PS w3.drew bp r d:=⟨(HP2.out.below hb3).ex⟩;have HWI:=Hi (q86 H w3.drew bp d r hn hd hp3 HGR.out);have HU3:=Hi ((HU2.out.trans (q00 hb3)).drew);have HBT:=Hi hbt.drew;have HBX3:=Hi (HBX2.out.below hb3 HBX2.out.lt).drew;have h33:w.heap.size < w3.drew.heap.size:=(HBX2.out.below hb3 HBX2.out.lt).lt;have h23:w2.heap.size < w3.drew.heap.size:=hbt.lt;have h02:bp < w2.heap.size:=HP2.out.lt;clear hp3 hb3 hbt;refine HT.one (i:=7) V1 rfl (fun K hK=>?_);go_simp;refine HWI.out.mono ?_;rintro e w4 (⟨k,a,s,m,A,la,cA,B,lb,cB,x,r',rfl,hT,hR,hP,hG,hr,hU⟩ | ⟨a,er,rfl,hR,hU⟩);rotate_left
 ·exact ⟨rfl,.inr ⟨a,er,rfl,q5u hd HTT.out hR,HU3.out.trans hU⟩⟩
 have HS34:=Hi hU.size;have HBT4:=Hi (HBT.out.upd hU V0);have HBX4:=Hi (HBX3.out.upd hU V0);have HT4:=Hi hT;have HR4:=Hi hR;have HP4:=Hi hP;have HG4:=Hi hG;have HU4:=Hi (HU3.out.trans hU);have hr1:r'.length < (t :: r).length:=V4;clear hT hR hP hG hU hZ0;dsimp only;refine hK.out _ _ (K3.of HBT4.out) trivial ?_;clear hK K;(try simp only [HT.pS]);refine HT.one (i:=8) V1 rfl (fun K hK=>?_);go_simp;obtain ⟨w5,hw5,hb5,-⟩:=alK w4 #[.int .i64 (k:Int),.string ⟨s.toArray⟩,.int .u32 (m:Int),.int .i64 (a:Int),.slice A la cA,.slice B lb cB] 26;have hT5:TIn (fun b=>w3.drew.heap.size<=b) w5 (.mk 2 t.at_ t.s 0 [] [x]) (ndC 2 t.at_ t.s 0 (some ⟨w4.heap.size,0,none⟩) 1 1 none 0 0):=by
  rw [<-hw5];exact q6U HT4.out HS34.out _ _ _ _
 refine hK.out _ _ (K3.of (HBT4.out.alloc _)) trivial ?_;clear hK K;(try simp only [HT.pS]);rw [hw5];have HB5:=Hi hb5;have HT5:=Hi hT5;clear hw5 hb5 hT5;have HN:=Hi (show Calls Tryz.prog 125 #[.int .i64 2,.string ⟨t.s.toArray⟩,.int .i64 (t.at_:Int),.slice (some ⟨w4.heap.size,0,none⟩) 1 1] w5 _ from node w5 2 t.at_ t.s (some ⟨w4.heap.size,0,none⟩) 1 1);refine HT.one (i:=9) V1 rfl (fun K hK=>?_);go_simp;refine HN.out.mono ?_;rintro e w6 ⟨rfl,hb6⟩;have HB6:=Hi hb6;have HX6:=Hi ((HBX4.out.below HB5.out HBX4.out.lt).below hb6 (Nat.lt_of_lt_of_le HBX4.out.lt HB5.out.size));have HK6:=Hi ((HBT4.out.below HB5.out HBT4.out.lt).below hb6 (Nat.lt_of_lt_of_le HBT4.out.lt HB5.out.size));clear hb6;dsimp only;refine hK.out _ _ (K3.of HK6.out) trivial ?_;clear hK K;(try simp only [HT.pS]);obtain ⟨⟨e0,e1,e2,e3,e4,e5⟩,z0,z1,z2,z3,z4,z5⟩:=Blk.c6 HX6.out;have hne26:w2.heap.size≠w.heap.size:=by have:=HBX2.out.lt;omega
 have HEND:=Hi (q0L (R:=Rd numV (.lev 5) d (t :: r)) (l:=t :: r) hlt h33 (TIn.far HT5.out (Upd.of_below HB6.out fun _=>False) (fun _ h=>h.elim)) (r_un hd HTT.out HR4.out) ((HP4.out.below HB5.out).below HB6.out) HG4.out hr1 ((HU4.out.trans (q00 HB5.out)).trans (q00 HB6.out)));refine HT.one (i:=10) V1 rfl (fun K hK=>?_);go_simp;refine hK.out _ _ (K3.of (q0e HK6.out hne26 _ _ _ _ _ _)) trivial ?_;clear hK K;refine HT.done V1 ?_;dsimp only [Exit.then];(try simp only [HT.pS]);go_wp2_with fail
 exact bodyPost_ret (resNd rfl rfl (Blk.put6 HX6.out _ _ _ _ _ _) rfl) rfl HEND.out):P:=h
theorem V2m{P:Prop}(h:P:=by
 have hix:=idx_dl j hj22;have hT:dTo c (j+1)=if dlN j=c then (if 15 < j then j - 6 else j) else dTo c j:=rfl
 generalize dTo c j=e0 at hT ⊢;generalize dlN j=x at hix hT;have HT:=Hi hT;clear hT;by_cases hxc:x=c
 ·have e1:((x:Int)==(c:Int))=true:=by simp [hxc]
  have HX:=Hi hxc;clear hxc;by_cases h15:15 < j
  ·go_wp2_with fail
   go_quiet (fail)
   go_wp2
   go_roundw
   case rel=>exact ⟨j+1,_,V0,V5,by rw [HT.out,if_pos HX.out,if_pos h15];go_num,rfl⟩
   case measure=>simp [intOf];omega
  ·go_wp2_with fail
   go_quiet (fail)
   go_wp2
   go_roundw
   case rel=>exact ⟨j+1,_,V0,V5,by rw [HT.out,if_pos HX.out,if_neg h15],rfl⟩
   case measure=>simp [intOf];omega
 ·have e1:((x:Int)==(c:Int))=false:=by simp;omega
  have HX:Hid (¬ x=c):=Hi hxc;clear hxc;go_wp2_with fail
  go_quiet (fail)
  go_wp2
  go_roundw
  case rel=>exact ⟨j+1,_,V0,V5,by rw [HT.out,if_neg HX.out],rfl⟩
  case measure=>simp [intOf];omega):P:=h
theorem V2t{P:Prop}(h:P:=by
 have e95:((s[j].toNat:Int)==95)=false:=V4;have c95:s[j]≠95:=q3W h95 V2;rw [hd,q0g,if_neg (by unfold onB;simp [hlb,hnb,c95])] at hq1;have HE:=Hi (show q=j from V0);clear hd hq1 HJ;clear hlj hnj hlb hnb h95 c95;go_wp2_with fail
 refine (HLJ.out _).mono ?_;rintro e w' ⟨rfl,rfl⟩;go_wp2_with fail
 refine (HNJ.out _).mono ?_;rintro e w' ⟨rfl,rfl⟩;go_wp2_with fail
 go_meet
 exact ⟨by rw [HE.out],rfl⟩):P:=h
theorem V2z{P:Prop}(h:P:=by
 rw [<-hW6];clear hW6;have him:i+(1)<=s.size:=(q12 ht hlt).2;have hmid:=q0j s i (1) ((i:Int)+1) V0 him;obtain ⟨S,hS⟩:∃ S,S=(s.data.toList.drop i).take (1):=⟨_,rfl⟩;rw [<-hS] at hmid;have f1:W6.cell? ⟨wr.heap.size,1,none⟩=some (.string ⟨#[]⟩):=HX.out.cell 1;have f2:=HX.out.frozen 1;have HCUT:=Hi (show Cut1 s i wr 4 (1) (W6.setCell ⟨wr.heap.size,1,none⟩ (.string ⟨S.toArray⟩)) from ⟨hlt,ht,VW,HU.out.setCell (p:=⟨wr.heap.size,1,none⟩) (fun h=>absurd h (Nat.lt_irrefl _)) _⟩);clear hS ht;go_wp2_with fail
 go_meet
 exact ⟨4,1,by (try push_cast);rfl,HCUT⟩):P:=h
theorem V2B{P:Prop}(h:P:=by
 have hne:=bad_ne hbad;have i1:((er:Int) != 0)=true:=V4;obtain ⟨w2,hw2,hb2,hX2,hs2⟩:=q05 w1 #[.int .i64 0,.string ⟨#[]⟩,.int .u32 0,.int .i64 0,.slice none 0 0,.slice none 0 0];have HW2:=Hi hw2;have HB2:=Hi (hb.trans (hb2.mono hb.size));have HBD:=Hi hbad;clear hb hw2 hb2 hX2 hs2 hbad;go_upto_region 2 with fail
 rw [HW2.out];go_wp2_with fail
 go_ret2
 exact ⟨HB2.out,.inr ⟨a,er,HBD.out,rfl⟩⟩):P:=h
theorem V0K{P:Prop}(h:P:=by
 go_wp2_with fail
 go_meet
 exact ⟨by rw [<-HP.out,HF.out],rfl⟩):P:=h
theorem V3o{P:Prop}(h:P:=by
 go_enter Tryz.func193,Tryz.ntmps193;go_upto_region 1 with fail
 rw [HW.out];go_wp2_with fail
 exact ⟨rfl,HBAD.out _ HU.out⟩):P:=h
theorem V1H{P:Prop}(h:P:=by
 go_wp2_with fail
 go_meet
 exact ⟨by rw [HE.out],rfl⟩):P:=h
end
end Go.Proofs.YtcgibpdjfgjldaaGreatDoor
