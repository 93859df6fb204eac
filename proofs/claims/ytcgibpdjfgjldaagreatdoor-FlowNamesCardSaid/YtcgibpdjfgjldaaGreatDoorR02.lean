/- DERIVED. Av. By an AI agent. -/
import Derived.ProofKit
import Derived.OwnWalk
import Derived.LoopTactic
import Derived.IntWalk
import Derived.TacticsIn
import Derived.KernelRfl
import Derived.Tactics2
import Derived.Deep.Cut
import Derived.Deep.CutRange
import Derived.Deep.QuietTactic
namespace Go.Proofs.YtcgibpdjfgjldaaGreatDoor
section
theorem V28{P:Prop}(h:P:=by
 have i2:(i:Int)+2<=(s.size:Int):=V0;have hs2:=q0k s i 2 ((i:Int)+2) V0 V0;obtain ⟨S2,hS2⟩:∃ S2,S2=(s.data.toList.drop i).take 2:=⟨_,rfl⟩;rw [<-hS2] at hs2;by_cases h2:(s.data.toList.drop i).take 2∈dz
 ·have ht:aW s[i] (s.data.toList.drop (i+1))=some (4,2):=by
   unfold aW;rw [hl,hn,if_neg V2,if_neg V2,<-drop_at s i hlt,if_neg h3,if_pos h2]
  have HI2:=Hi (in3 S2 true (by rw [hS2];simpa using h2));clear hS2;go_wp2_with fail
  refine (HLE.out _).mono ?_;rintro e w' ⟨rfl,rfl⟩;go_wp2_with fail
  refine (HNU.out _).mono ?_;rintro e w' ⟨rfl,rfl⟩;go_wp2_with fail
  refine (HI2.out (wr.alloc (.cells #[.int .i64 4,.string ⟨#[]⟩,.int .i64 (i:Int)] 63)) (wr.heap.size+1) V3).mono ?_;rintro e w' ⟨rfl,rfl⟩;go_upto_region 26 with fail
  clear hs2;obtain ⟨W6,hW6⟩:∃ W6,W6=(wr.alloc (.cells #[.int .i64 4,.string ⟨#[]⟩,.int .i64 (i:Int)] 63)).alloc (.cells #[.string ⟨#[60,60]⟩,.string ⟨#[62,62]⟩,.string ⟨#[46,46]⟩] 9):=⟨_,rfl⟩;have HX:=Hi (show Aa W6 wr.heap.size 63 #[.int .i64 4,.string ⟨#[]⟩,.int .i64 (i:Int)] by rw [hW6];exact (Aa.new _ _ _).alloc _);have HU:=Hi (show Upd (fun _=>False) wr W6 from V4i);rw [<-hW6];clear hW6;have him:i+(2)<=s.size:=(q14 ht hlt).2;have hmid:=q0k s i (2) ((i:Int)+2) V0 him;obtain ⟨S,hS⟩:∃ S,S=(s.data.toList.drop i).take (2):=⟨_,rfl⟩;rw [<-hS] at hmid;have f1:W6.cell? ⟨wr.heap.size,1,none⟩=some (.string ⟨#[]⟩):=HX.out.cell 1;have f2:=HX.out.frozen 1;have HCUT:=Hi (show Cut1 s i wr 4 (2) (W6.setCell ⟨wr.heap.size,1,none⟩ (.string ⟨S.toArray⟩)) from ⟨hlt,ht,V05,HU.out.setCell (p:=⟨wr.heap.size,1,none⟩) (fun h=>absurd h (Nat.lt_irrefl _)) _⟩);clear hS ht;go_wp2_with fail
  go_meet
  exact ⟨4,2,by (try push_cast);rfl,HCUT⟩
 ·have HI2:=Hi (in3 S2 false (by rw [hS2];simpa using h2));clear hS2;have hs1:=q0k s i 1 ((i:Int)+1) V0 V0;rw [show (s.data.toList.drop i).take 1=[s[i]] by rw [drop_at s i hlt];rfl] at hs1;by_cases h1:s[i]∈signs1
  ·have ht:aW s[i] (s.data.toList.drop (i+1))=some (4,1):=by
    exact V3z
   have HI1:=Hi (in13 s[i] true VT);go_wp2_with fail
   refine (HLE.out _).mono ?_;rintro e w' ⟨rfl,rfl⟩;go_wp2_with fail
   refine (HNU.out _).mono ?_;rintro e w' ⟨rfl,rfl⟩;go_wp2_with fail
   refine (HI2.out (wr.alloc (.cells #[.int .i64 4,.string ⟨#[]⟩,.int .i64 (i:Int)] 63)) (wr.heap.size+1) V3).mono ?_;rintro e w' ⟨rfl,rfl⟩;go_wp2_with fail
   refine (HI1.out (((wr.alloc (.cells #[.int .i64 4,.string ⟨#[]⟩,.int .i64 (i:Int)] 63)).alloc (.cells #[.string ⟨#[60,60]⟩,.string ⟨#[62,62]⟩,.string ⟨#[46,46]⟩] 9))) (wr.heap.size+1+1) V3).mono ?_;rintro e w' ⟨rfl,rfl⟩;go_upto_region 26 with fail
   clear hs1;obtain ⟨W6,hW6⟩:∃ W6,W6=((wr.alloc (.cells #[.int .i64 4,.string ⟨#[]⟩,.int .i64 (i:Int)] 63)).alloc (.cells #[.string ⟨#[60,60]⟩,.string ⟨#[62,62]⟩,.string ⟨#[46,46]⟩] 9)).alloc (.cells #[.string ⟨#[61]⟩,.string ⟨#[59]⟩,.string ⟨#[44]⟩,.string ⟨#[40]⟩,.string ⟨#[41]⟩,.string ⟨#[123]⟩,.string ⟨#[125]⟩,.string ⟨#[43]⟩,.string ⟨#[45]⟩,.string ⟨#[38]⟩,.string ⟨#[124]⟩,.string ⟨#[94]⟩,.string ⟨#[126]⟩] 9):=⟨_,rfl⟩;have HX:=Hi (show Aa W6 wr.heap.size 63 #[.int .i64 4,.string ⟨#[]⟩,.int .i64 (i:Int)] by rw [hW6];exact ((Aa.new _ _ _).alloc _).alloc _);have HU:=Hi (show Upd (fun _=>False) wr W6 by rw [hW6];exact (((Upd.refl _ _).alloc _).alloc _).alloc _);exact V2v
  ·have HL:=Hi fun w' hb=>words_err' (q3O HH.out.2.2 hlt (by
    unfold aW;rw [hl,hn,if_neg V2,if_neg V2,<-drop_at s i hlt,if_neg h3,if_neg h2,if_neg h1])) w w' hb
   have HBE:=Hi (show Below w.heap.size w (((wr.alloc (.cells #[.int .i64 4,.string ⟨#[]⟩,.int .i64 (i:Int)] 63)).alloc (.cells #[.string ⟨#[60,60]⟩,.string ⟨#[62,62]⟩,.string ⟨#[46,46]⟩] 9)).alloc (.cells #[.string ⟨#[61]⟩,.string ⟨#[59]⟩,.string ⟨#[44]⟩,.string ⟨#[40]⟩,.string ⟨#[41]⟩,.string ⟨#[123]⟩,.string ⟨#[125]⟩,.string ⟨#[43]⟩,.string ⟨#[45]⟩,.string ⟨#[38]⟩,.string ⟨#[124]⟩,.string ⟨#[94]⟩,.string ⟨#[126]⟩] 9)) from HH.out.2.1.trans (((((Upd.refl (fun _=>False) wr).alloc _).alloc _).alloc _).below hsz0 nofun));have HI1:=Hi (in13 s[i] false VT);go_wp2_with fail
   refine (HLE.out _).mono ?_;rintro e w' ⟨rfl,rfl⟩;go_wp2_with fail
   refine (HNU.out _).mono ?_;rintro e w' ⟨rfl,rfl⟩;go_wp2_with fail
   refine (HI2.out (wr.alloc (.cells #[.int .i64 4,.string ⟨#[]⟩,.int .i64 (i:Int)] 63)) (wr.heap.size+1) V3).mono ?_;rintro e w' ⟨rfl,rfl⟩;go_wp2_with fail
   refine (HI1.out (((wr.alloc (.cells #[.int .i64 4,.string ⟨#[]⟩,.int .i64 (i:Int)] 63)).alloc (.cells #[.string ⟨#[60,60]⟩,.string ⟨#[62,62]⟩,.string ⟨#[46,46]⟩] 9))) (wr.heap.size+1+1) V3).mono ?_;exact V1t):P:=h
theorem V29{P:Prop}(h:P:=by
 go_wp2_with fail
 refine HT1.out.mono ?_;rintro e w2 ⟨rfl,hp2,hu2⟩;have Ar:=Hi hp2;have Ai:=Hi (Aj.out.trans hu2);have HBX2:=Hi (HBX.out.upd hu2 V0);clear hp2 hu2 HT1 HBX Aj;go_upto_region 4 with fail
 obtain ⟨w3,hw3,hb3,hbt⟩:=aS w2 #[.int .i64 (t.k:Int),.string ⟨t.s.toArray⟩,.int .i64 (t.at_:Int)] 63;have aa:K3 w2.heap.size t w3.drew:=K3.of hbt.drew;rw [hw3];clear hw3;refine HT.wp_region (Z:=fun w'=>K3 w2.heap.size t w') (S:=fun _=>True) (st:=[]) V1 ?_;refine HT.bg (i:=0) (v:=?_) rfl V1 V1 V1 V1 (fun _ _ _ h=>h) (Or.inl ⟨V8,?_⟩) aa (fun _=>trivial) ?_;rotate_left
 ·exact VK
 (try simp only [HT.pS]);refine HT.bg (i:=1) (v:=?_) rfl V1 V1 V1 V1 (fun _ _ _ h=>h) (Or.inl ⟨V8,?_⟩) aa (fun _=>trivial) ?_;rotate_left
 ·exact VK
 (try simp only [HT.pS]);refine HT.bg (i:=2) (v:=?_) rfl V1 V1 V1 V1 (fun _ _ _ h=>h) (Or.inl ⟨V8,?_⟩) aa (fun _=>trivial) ?_;rotate_left
 ·exact VK
 (try simp only [HT.pS]);refine HT.bg (i:=3) (v:=?_) rfl V1 V1 V1 V1 (fun _ _ _ h=>h) (Or.inl ⟨V8,?_⟩) aa (fun _=>trivial) ?_;rotate_left
 ·exact VK
 (try simp only [HT.pS]);refine HT.bg (i:=4) (v:=?_) rfl V1 V1 V1 V1 (fun _ _ _ h=>h) (Or.inl ⟨V8,?_⟩) aa (fun _=>trivial) ?_;rotate_left
 ·exact VK
 (try simp only [HT.pS]);refine HT.bg (i:=5) (v:=?_) rfl V1 V1 V1 V1 (fun _ _ _ h=>h) (Or.inl ⟨V8,?_⟩) aa (fun _=>trivial) ?_;rotate_left
 ·exact VK
 (try simp only [HT.pS]);refine HT.bg (i:=6) (v:=?_) rfl V1 V1 V1 V1 (fun _ _ _ h=>h) (Or.inl ⟨V8,?_⟩) aa (fun _=>trivial) ?_;rotate_left
 ·exact VK
 (try simp only [HT.pS]);have hp3:PS w3.drew bp r d:=⟨(Ar.out.below hb3).ex⟩;have HWI:=Hi (q7H H w3.drew bp d r hn hd hp3 HGR.out);have Aw:=Hi ((Ai.out.trans (q01 hb3)).drew);have HBT:=Hi hbt.drew;have HBX3:=Hi (HBX2.out.below hb3 HBX2.out.lt).drew;have h33:w.heap.size < w3.drew.heap.size:=(HBX2.out.below hb3 HBX2.out.lt).lt;have h23:w2.heap.size < w3.drew.heap.size:=hbt.lt;have h02:bp < w2.heap.size:=Ar.out.lt;clear hp3 hb3 hbt;refine HT.one (i:=7) V1 rfl (fun K hK=>?_);go_simp;refine HWI.out.mono ?_;rintro e w4 (⟨k,a,s,m,A,la,cA,B,lb,cB,x,r',rfl,hT,hR,hP,hG,hr,hU⟩ | ⟨a,er,rfl,hR,hU⟩);rotate_left
 ·exact ⟨rfl,.inr ⟨a,er,rfl,q56 hd HTT.out hR,Aw.out.trans hU⟩⟩
 have HS34:=Hi hU.size;have Bd:=Hi (HBT.out.upd hU V0);have HBX4:=Hi (HBX3.out.upd hU V0);have HT4:=Hi hT;have HR4:=Hi hR;have HP4:=Hi hP;have HG4:=Hi hG;have AO:=Hi (Aw.out.trans hU);have hr1:r'.length < (t :: r).length:=V4;clear hT hR hP hG hU aa;dsimp only;refine hK.out _ _ (K3.of Bd.out) trivial ?_;clear hK K;(try simp only [HT.pS]);refine HT.one (i:=8) V1 rfl (fun K hK=>?_);go_simp;obtain ⟨w5,hw5,hb5,-⟩:=aS w4 #[.int .i64 (k:Int),.string ⟨s.toArray⟩,.int .u32 (m:Int),.int .i64 (a:Int),.slice A la cA,.slice B lb cB] 26;have hT5:Ak (fun b=>w3.drew.heap.size<=b) w5 (.mk 2 t.at_ t.s 0 [] [x]) (bG 2 t.at_ t.s 0 (some ⟨w4.heap.size,0,none⟩) 1 1 none 0 0):=by
  rw [<-hw5];exact q6n HT4.out HS34.out _ _ _ _
 refine hK.out _ _ (K3.of (Bd.out.alloc _)) trivial ?_;clear hK K;(try simp only [HT.pS]);rw [hw5];have HB5:=Hi hb5;have HT5:=Hi hT5;clear hw5 hb5 hT5;have HN:=Hi (show Calls Tryz.prog 125 #[.int .i64 2,.string ⟨t.s.toArray⟩,.int .i64 (t.at_:Int),.slice (some ⟨w4.heap.size,0,none⟩) 1 1] w5 _ from node w5 2 t.at_ t.s (some ⟨w4.heap.size,0,none⟩) 1 1);refine HT.one (i:=9) V1 rfl (fun K hK=>?_);go_simp;refine HN.out.mono ?_;rintro e w6 ⟨rfl,hb6⟩;have HB6:=Hi hb6;have HX6:=Hi ((HBX4.out.below HB5.out HBX4.out.lt).below hb6 (Nat.lt_of_lt_of_le HBX4.out.lt HB5.out.size));have HK6:=Hi ((Bd.out.below HB5.out Bd.out.lt).below hb6 (Nat.lt_of_lt_of_le Bd.out.lt HB5.out.size));clear hb6;dsimp only;refine hK.out _ _ (K3.of HK6.out) trivial ?_;clear hK K;(try simp only [HT.pS]);obtain ⟨⟨e0,e1,e2,e3,e4,e5⟩,z0,z1,z2,z3,z4,z5⟩:=Aa.c6 HX6.out;have hne26:w2.heap.size≠w.heap.size:=by have:=HBX2.out.lt;omega
 have Ac:=Hi (q0N (R:=Rd ag (.aI 5) d (t :: r)) (l:=t :: r) hlt h33 (Ak.far HT5.out (Upd.of_below HB6.out fun _=>False) (fun _ h=>h.elim)) (r_un hd HTT.out HR4.out) ((HP4.out.below HB5.out).below HB6.out) HG4.out hr1 ((AO.out.trans (q01 HB5.out)).trans (q01 HB6.out)));refine HT.one (i:=10) V1 rfl (fun K hK=>?_);go_simp;refine hK.out _ _ (K3.of (q0u HK6.out hne26 _ _ _ _ _ _)) trivial ?_;clear hK K;refine HT.done V1 ?_;dsimp only [Exit.then];(try simp only [HT.pS]);go_wp2_with fail
 exact bodyPost_ret (aH rfl rfl (Aa.az HX6.out _ _ _ _ _ _) rfl) rfl Ac.out):P:=h
theorem Vq{P:Prop}(h:P:=by
 rintro e w8 ⟨rfl,h8⟩;have hZ8:=h8.ez;have H8:=Hi h8;clear h8;(try dsimp only);refine hK.out _ _ hZ8 trivial ?_;clear hK K;(try simp only [HT.pS]);refine HT.done V1 ?_;clear hZ8 aa;go_wp2_with fail
 go_meet
 exact Hi (by simpa using H8.out)):P:=h
theorem V2c{P:Prop}(h:P:=by
 clear ho6;have ho6:=ho6_;clear ho6_;clear hown5;(try dsimp only);refine hK.out _ _ hb5 trivial ?_;clear hK K;(try simp only [HT.pS]);refine HT.one (i:=11) V1 rfl (fun K hK=>?_);have hLw11:Af W5 A2 (d.aN.map ai):=by
  have h:W5.ownsRow lo 9 1 (v 2) d.aN.length (d.aN.map ai):=(HY.out.below hb5).rv.own 2 V2;rw [HV2.out] at h;exact q0o h
 refine q0b rfl _ _ 24 rfl lo 9 i0 (.string ⟨#[]⟩) 1 16 Tryz.underlying24 HI.out HZ0.out HZ1.out HZ2.out rfl V2 (.slice (some ⟨a6,0,none⟩) 0 0) 0 [] rfl ho6 A2 d.aN.length c2' (d.aN.map ai) rfl Vw hLw11 (q1F _) V6 V0 (by have:=hb5.size;omega) ?_;intro u11 W11 hown11 hgrow11 hat11;rw [Nat.zero_add,List.nil_append] at hown11;have ho11:=hown11;have hgd11:W5.heap.size<=W11.heap.size:=hgrow11.size;have hb11:Below wy.heap.size wy W11:=below_grown (b0:=a6) hb5 hgrow11 rfl V0;obtain ⟨z11,hz11⟩:∃ b,W5.heap.size=b:=⟨_,rfl⟩;rw [hz11] at hat11;have hat11':u11.ownBlock=some a6\/u11.ownBlock=some z11:=hat11;have hlt11:=av hown11;have ho5_:=ae ho5 ((Upd.refl (fun b=>b=a6) W5).grown hgrow11 fun k hk _=>(Option.some.inj hk).symm) (fun b hb e=>by
  have q0:=HS0.out;have q6:=HS6.out;have q5:=(hlt5 b hb).2;rcases hat5' with h | h <;> (rw [h] at hb;cases hb;omega))
 clear ho5;have ho5:=ho5_;clear ho5_;clear hown11;(try dsimp only);refine hK.out _ _ hb11 trivial ?_;clear hK K;(try simp only [HT.pS]);refine HT.one (i:=12) V1 rfl (fun K hK=>?_);go_simp;(try dsimp only);refine hK.out _ _ hb11 trivial ?_;clear hK K;(try simp only [HT.pS]);refine HT.one (i:=13) V1 rfl (fun K hK=>?_);go_simp;(try dsimp only);refine hK.out _ _ hb11 trivial ?_;clear hK K;(try simp only [HT.pS]);refine HT.done V1 ?_;have HQ:=Hi (HY.out.below hb11);have hys0:=HYS.out;have q00:=HS0.out;have q66:=HS6.out;have hge:∀ b,u5.ownBlock=some b\/u11.ownBlock=some b->wB.heap.size<=b:=fun b hb=>by
  rcases hb with hb | hb
  ·rcases hat5' with h | h <;> (rw [h] at hb;cases hb;omega)
  ·rcases hat11' with h | h <;> (rw [h] at hb;cases hb;omega)
 have hd:∀ b,u5.ownBlock=some b->u11.ownBlock≠some b:=fun b hb hb2=>by
  have:=(hlt5 b hb).2;have hq5:=hat5';have hq11:=hat11';rw [hb] at hq5;rw [hb2] at hq11;rcases hq5 with h | h <;> rcases hq11 with h' | h' <;> (cases h;cases h';omega)
 have hys:=HYS.out;have q0:=HS0.out;have q6:=HS6.out;have HSZB:=Hi (show wB.heap.size<=W11.heap.size from by have:=hb11.size;omega);have HCP:=Hi (show Cp2 lo wB.heap.size d u5 u11 W11 from ⟨ho5,ho11,hge,hd⟩);go_wp2_with fail
 go_meet
 exact ⟨_,_,rfl,rfl,HQ,HCP,HSZB⟩):P:=h
theorem V2f{P:Prop}(h:P:=by
 refine HT.k 18 rfl V5 aa ?_;refine HT.k 19 rfl V5 aa ?_;refine HT.s 20 aa ?_;refine HT.s 21 aa ?_;refine HT.s 22 aa ?_;refine HT.s 23 aa ?_;refine HT.s 24 aa ?_;refine HT.s 25 aa ?_;refine HT.s 26 aa ?_;refine HT.s 27 aa ?_;refine HT.k 28 rfl V5 aa ?_;refine HT.one (i:=30) V1 rfl (fun K hK=>?_);go_simp;refine (Az.out false).mono ?_;rintro e w8 ⟨rfl,h8⟩;have hZ8:=h8.ez;have H8:=Hi h8;clear h8;(try dsimp only);refine hK.out _ _ hZ8 trivial ?_;clear hK K;(try simp only [HT.pS]);refine HT.done V1 ?_;clear hZ8 aa;go_wp2_with fail
 go_meet
 exact Hi (by rw [<-HQ.out];exact H8.out)):P:=h
theorem V1a{P:Prop}(h:P:=by
 rintro e w8 ⟨rfl,h8⟩;have hZ8:=h8.ez;have H8:=Hi h8;clear h8;(try dsimp only);refine hK.out _ _ hZ8 trivial ?_;clear hK K;(try simp only [HT.pS]);refine HT.done V1 ?_;clear hZ8 aa;go_wp2_with fail
 go_meet
 exact Hi (by rw [<-HQ.out];exact H8.out)):P:=h
theorem V2g{P:Prop}(h:P:=by
 have hix:=idx_dl j hj22;have hT:dTo c (j+1)=if dlN j=c then (if 15 < j then j - 6 else j) else dTo c j:=rfl
 generalize dTo c j=e0 at hT ⊢;generalize dlN j=x at hix hT;have HT:=Hi hT;clear hT;by_cases hxc:x=c
 ·have e1:((x:Int)==(c:Int))=true:=by simp [hxc]
  have HX:=Hi hxc;clear hxc;by_cases h15:15 < j
  ·go_wp2_with fail
   go_quiet (fail)
   go_wp2
   go_roundw
   case rel=>exact ⟨j+1,_,V0,V7,by rw [HT.out,if_pos HX.out,if_pos h15];go_num,rfl⟩
   case measure=>simp [intOf];omega
  ·go_wp2_with fail
   go_quiet (fail)
   go_wp2
   go_roundw
   case rel=>exact ⟨j+1,_,V0,V7,by rw [HT.out,if_pos HX.out,if_neg h15],rfl⟩
   case measure=>simp [intOf];omega
 ·have e1:((x:Int)==(c:Int))=false:=by simp;omega
  have HX:Hid (¬ x=c):=Hi hxc;clear hxc;go_wp2_with fail
  go_quiet (fail)
  go_wp2
  go_roundw
  case rel=>exact ⟨j+1,_,V0,V7,by rw [HT.out,if_neg HX.out],rfl⟩
  case measure=>simp [intOf];omega):P:=h
theorem V2m{P:Prop}(h:P:=by
 have e95:((s[j].toNat:Int)==95)=false:=V4;have c95:s[j]≠95:=q3U h95 V2;rw [hd,q0g,if_neg (by unfold onB;simp [hlb,hnb,c95])] at hq1;have HE:=Hi (show q=j from V0);clear hd hq1 HJ;clear hlj hnj hlb hnb h95 c95;go_wp2_with fail
 refine (HLJ.out _).mono ?_;rintro e w' ⟨rfl,rfl⟩;go_wp2_with fail
 refine (HNJ.out _).mono ?_;rintro e w' ⟨rfl,rfl⟩;go_wp2_with fail
 go_meet
 exact ⟨by rw [HE.out],rfl⟩):P:=h
theorem V2v{P:Prop}(h:P:=by
 rw [<-hW6];clear hW6;have him:i+(1)<=s.size:=(q14 ht hlt).2;have hmid:=q0k s i (1) ((i:Int)+1) V0 him;obtain ⟨S,hS⟩:∃ S,S=(s.data.toList.drop i).take (1):=⟨_,rfl⟩;rw [<-hS] at hmid;have f1:W6.cell? ⟨wr.heap.size,1,none⟩=some (.string ⟨#[]⟩):=HX.out.cell 1;have f2:=HX.out.frozen 1;have HCUT:=Hi (show Cut1 s i wr 4 (1) (W6.setCell ⟨wr.heap.size,1,none⟩ (.string ⟨S.toArray⟩)) from ⟨hlt,ht,V05,HU.out.setCell (p:=⟨wr.heap.size,1,none⟩) (fun h=>absurd h (Nat.lt_irrefl _)) _⟩);clear hS ht;go_wp2_with fail
 go_meet
 exact ⟨4,1,by (try push_cast);rfl,HCUT⟩):P:=h
theorem V2D{P:Prop}(h:P:=by
 clear h hE hwn hbn aK hblk aL hsn;go_enter Tryz.func64,Tryz.ntmps64;go_upto_region 1 with fail
 rw [HW.out];go_wp2_with fail
 first | go_end0 | skip
 all_goals first | exact HEND0.out | exact bodyPost_ret (results_none rfl _ _ _) rfl HEND0.out):P:=h
theorem V0L{P:Prop}(h:P:=by
 go_wp2_with fail
 go_meet
 exact ⟨by rw [<-HP.out,HF.out],rfl⟩):P:=h
theorem V3a{P:Prop}(h:P:=by
 go_enter Tryz.func193,Tryz.ntmps193;go_upto_region 1 with fail
 rw [HW.out];go_wp2_with fail
 exact ⟨rfl,HBAD.out _ HU.out⟩):P:=h
theorem V1A{P:Prop}(h:P:=by
 go_wp2_with fail
 go_meet
 exact ⟨by rw [HE.out],rfl⟩):P:=h
theorem V3y{P:Prop}(h:P:=by
 rcases hk with rfl | rfl
 all_goals (
  go_wp2_with fail
  go_meet
  exact ⟨rfl,rfl⟩)):P:=h
end
end Go.Proofs.YtcgibpdjfgjldaaGreatDoor
