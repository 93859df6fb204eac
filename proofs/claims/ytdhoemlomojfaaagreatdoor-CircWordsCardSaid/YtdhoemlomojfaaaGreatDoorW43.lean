/- DERIVED. CiAdd, EvSpec, EvAt. By an AI agent. -/
import Derived.Test.YtdhoemlomojfaaaGreatDoorW01
import Derived.Test.YtdhoemlomojfaaaGreatDoorW03
import Derived.Test.YtdhoemlomojfaaaGreatDoorW05
import Derived.Test.YtdhoemlomojfaaaGreatDoorW10
import Derived.Test.YtdhoemlomojfaaaGreatDoorW13
import Derived.Test.YtdhoemlomojfaaaGreatDoorW19
import Derived.Test.YtdhoemlomojfaaaGreatDoorW15
import Derived.Test.YtdhoemlomojfaaaGreatDoorW17
set_option maxRecDepth 100000
set_option maxHeartbeats 4000000
set_option linter.unusedVariables false
set_option linter.unusedSimpArgs false
namespace Go.Proofs.YtdhoemlomojfaaaGreatDoor.Ci
open Go Go.ChangeShapes Go.WideShapes Go.ChangeAt Go.RowKit Lx Args Pa Sh Go.Proofs.YtdhoemlomojfaaaGreatDoor.Nm WMath Word Fl
/-! Names' gates, as a map. -/
abbrev mV(m:Nat):Value:=.agg #[.int .i64 (m:Int),.bool false,.int .u32 0]
noncomputable def codM:Cod Nat:=Cod.of mV (fun m=>.agg [.lit (.int .i64 (m:Int)),.lit (.bool false),.lit (.int .u32 0)]) (fun a b h=>by
  simp only [mV,Value.agg.injEq,Array.mk.injEq,List.cons.injEq,Value.int.injEq,true_and,and_true] at h;omega) fun a b h=>by
  simp only [DataW.agg.injEq,List.cons.injEq,DataW.lit.injEq,Lit.int.injEq,true_and,and_true] at h;omega
abbrev Km:=Bs→Option Nat
abbrev MpM(w:World)(b n:Nat)(kn:Km):Prop:=MpG codM w b n kn
theorem zM(w:World):(zeroValue 120).run Tryz.prog w = .ok (codM.enc 0) w:=by
 show _=Result.ok (mV 0) w;kernel_rfl
theorem uSc:Tryz.prog.underlying 79=some (.map 9 120):=by kernel_rfl
def putM(kn:Km)(s:Bs)(x:Nat):Km:=fun t=>if t=s then some x else kn t
section
variable {w : World} {b n : Nat} {kn : Km} {s : Bs}
theorem mpm_look1(h:MpM w b n kn)(hs:s.length≤maxLen):(Instr.lookup 79 (.map (some b)) (.string ⟨s.toArray⟩) false).run Tryz.prog w = .ok (mV ((kn s).getD 0)) w:=h.look1 hs uSc (zM w)
theorem mpm_put(h:MpM w b n kn)(hs:s.length≤maxLen)(hn:n < maxLen)(m:Nat) :
  ∃ w',(Instr.mapUpdate 79 (.map (some b)) (.string ⟨s.toArray⟩) (mV m)).run Tryz.prog w = .ok () w'∧MpM w' b (n+1) (putM kn s m)∧w.mapTurned w' b:=h.put hs hn uSc m
end
theorem infoG:(Tryz.prog.info? 37).map (fun i=>(i.zero,i.size,i.bytes))=some (some (.agg #[.int .i64 0,.int .i64 0,.int .i64 0,.int .u32 0,.bool false]),5,32):=by kernel_rfl
theorem infoO:(Tryz.prog.info? 43).map (fun i=>(i.zero,i.size,i.bytes))=some (some (.agg #[.string ⟨#[]⟩,.int .i64 0]),2,24):=by kernel_rfl
structure BS(lo hi:Nat)(w:World)(bb bc kb q:Nat)(fm:Value)(pl sc pb:Int)(l:List Gt)(kn:Km):Prop where
 b:Blk w bb 82 #[.pointer (some ⟨bc,0,none⟩),.map (some kb),fm,.slice none 0 0,.int .i64 pl]
 c:∃ A cA,Blk w bc 25 (crB A l.length cA sc pb none 0 0)∧w.ownsRow lo 37 5 (.slice A l.length cA) l.length (l.flatMap Gt.cells)∧∀ g,(Value.slice A l.length cA).ownBlock=some g→g < hi
 m:MpM w kb q kn
 d:bb < lo∧bc < lo∧kb < lo∧bb≠bc∧bb≠kb∧bc≠kb
 lo:lo≤hi∧hi≤w.heap.size
 q:q < 1000
abbrev XB(lo hi bb bc kb:Nat):Nat→Prop:=fun k=>k=bb∨k=bc∨k=kb∨(lo≤k∧k < hi)
theorem BS.below{lo hi:Nat}{w w':World}{bb bc kb q:Nat}{fm:Value}{pl sc pb:Int}{l:List Gt}{kn:Km}(h:BS lo hi w bb bc kb q fm pl sc pb l kn)(hb:Below w.heap.size w w'):BS lo hi w' bb bc kb q fm pl sc pb l kn:=by
 obtain ⟨A,cA,h1,h2,h3⟩:=h.c;have hd:=h.d;have hl:=h.lo;exact ⟨h.b.below hb h.b.lt,⟨A,cA,h1.below hb h1.lt,Nm.own_updV h2 (Upd.of_below hb fun _=>False) fun _ _=>id,h3⟩,h.m.upd (X:=fun _=>False) (Upd.of_below hb fun _=>False) id,h.d,⟨h.lo.1,Nat.le_trans h.lo.2 hb.size⟩,h.q⟩
def AdP(lo hi:Nat)(w:World)(bb bc kb q:Nat)(fm:Value)(pl sc pb:Int)(l:List Gt)(kn:Km)(g:Gt)(e:Ending)(w':World):Prop:=
 e = .returned (.int .i64 (l.length:Int))∧BS lo w'.heap.size w' bb bc kb q fm pl sc pb (l ++ [g]) kn∧Upd (XB lo hi bb bc kb) w w'
theorem add(w:World){lo hi bb bc kb q:Nat}{fm:Value}{pl sc pb:Int}{l:List Gt}{kn:Km}(h:BS lo hi w bb bc kb q fm pl sc pb l kn)(hl:l.length < 1000)(k a b:Int)(n:BitVec 32)
  (ha:0 < tk k→a.toNat < l.length∧a=(a.toNat:Int)) (hb:1 < tk k→b.toNat < l.length∧b=(b.toNat:Int)) (se:Bool) (hse:seB l ⟨k,a,b,n,false⟩=se) :
  Calls Tryz.prog 79 #[.pointer (some ⟨bb,0,none⟩),gA ⟨k,a,b,n,false⟩] w (AdP lo hi w bb bc kb q fm pl sc pb l kn ⟨k,a,b,n,se⟩):=by
 obtain ⟨w1,hw1,hb1,hX1,hs1⟩:=g_box w (gB ⟨k,a,b,n,false⟩);have h1:=h.below hb1;obtain ⟨A,cA,hc0,ho0,hhi⟩:=h.c;have hc1:=hc0.below hb1 hc0.lt;have ho1:=Nm.own_updV ho0 (Upd.of_below hb1 fun _=>False) fun _ _=>id
 have HAT:=Hi fun g hg=>(show lo≤g∧g < hi from ⟨(Nm.own_atV ho0 g hg).1,hhi g hg⟩)
 obtain ⟨j0,hj,hy0,hy1,hy2⟩:=info_parts infoG;have HJ:=Hi hj;have HY0:=Hi hy0;have HY1:=Hi hy1;have HY2:=Hi hy2;have hd:=h1.d;have hgw:lo≤hi:=h.lo.1;have hgw2:hi≤w.heap.size:=h.lo.2;have hbl:=h1.b;obtain ⟨⟨e0,e1,e2,e3,e4⟩,z0,z1,z2,z3,z4⟩:=Blk.c5 hbl;obtain ⟨c0,c1,c2,c3,f0,f1,f2,f3⟩:=Blk.c4 hc1;have hgl:=hbl.lt;have hgc:=hc1.lt;have HB1:=Hi hb1;have HW1:=Hi hw1;have HX1:=Hi hX1;have HH:=Hi h1;have HC1:=Hi hc1;have HO1:=Hi ho1;have HBL:=Hi hbl;have HS:=Hi fun (v:World) (hv:Below w1.heap.size w1 v)=>(show Calls Tryz.prog 31 #[.slice A l.length cA,gA ⟨k,a,b,n,false⟩] v fun e w'=>e = .returned (.bool se)∧Below v.heap.size v w' from by
  have:=secret (cA:=cA) v (A:=A) (l:=l) ((lies_own ho1).below hv) (by omega) ⟨k,a,b,n,false⟩ ha hb
  rwa [hse] at this)
 have hn5:((l.length:Int)==1000)=false:=by simp;omega
 have hlen:(l.length:Int) < 1000:=by omega
 unfold AdP;clear hw1 hb1 hX1 h1 hc0 ho0 hc1 ho1 hbl hj hy0 hy1 hy2 ha hb hse h;go_enter Tryz.func79,Tryz.ntmps79;go_upto_region 1 with fail
 rw [HW1.out];go_upto_region 3 with fail
 have hdr:Below w1.heap.size w1 w1.drew:=Below.drew (Below.refl _ _);obtain ⟨wd,hwd⟩:∃ v,w1.drew=v:=⟨_,rfl⟩;rw [hwd] at hdr;have HXd:=Hi (HX1.out.below hdr HX1.out.lt);have HBd:=Hi (HBL.out.below hdr HBL.out.lt);have HCd:=Hi (HC1.out.below hdr HC1.out.lt);have HDR:=Hi hdr;have HSd:=Hi (HS.out wd hdr);have hZ0:Below wd.heap.size wd wd:=Below.refl _ _;clear hdr e0 e1 e2 e3 e4 z0 z1 z2 z3 z4 c0 c1 c2 c3 f0 f1 f2 f3 hgl hgc;refine HT.wp_region (Z:=fun w'=>True) (S:=fun w'=>Below wd.heap.size wd w') (st:=[10]) (by kernel_rfl) ?_;rw [hwd];clear hwd;refine HT.tm 0 rfl trivial (fun _=>hZ0) ?_;refine HT.ts 1 rfl (by intro v hSw;have hy:=HBd.out.below hSw HBd.out.lt;obtain ⟨⟨e0,e1,e2,e3,e4⟩,z0,z1,z2,z3,z4⟩:=Blk.c5 hy;have hgy:=hy.lt;clear hSw hy;go_simp;try with_reducible rfl) trivial hZ0 ?_;refine HT.tm 2 rfl trivial (fun _=>hZ0) ?_;refine HT.ts 3 rfl (by intro v hSw;have hy:=HBd.out.below hSw HBd.out.lt;obtain ⟨⟨e0,e1,e2,e3,e4⟩,z0,z1,z2,z3,z4⟩:=Blk.c5 hy;have hgy:=hy.lt;clear hSw hy;go_simp;try with_reducible rfl) trivial hZ0 ?_;refine HT.ts 4 rfl (by intro v hSw;have hy:=HCd.out.below hSw HCd.out.lt;obtain ⟨c0,c1,c2,c3,f0,f1,f2,f3⟩:=Blk.c4 hy;have hgy:=hy.lt;clear hSw hy;go_simp;try with_reducible rfl) trivial hZ0 ?_;refine HT.tm 5 rfl trivial (fun _=>hZ0) ?_;refine HT.ts 6 rfl (by intro v hSw;have hy:=HCd.out.below hSw HCd.out.lt;obtain ⟨c0,c1,c2,c3,f0,f1,f2,f3⟩:=Blk.c4 hy;have hgy:=hy.lt;clear hSw hy;go_simp;try with_reducible rfl) trivial hZ0 ?_;refine HT.ts 7 rfl (by intro v hSw;have hy:=HXd.out.below hSw HXd.out.lt;obtain ⟨⟨e0,e1,e2,e3,e4⟩,z0,z1,z2,z3,z4⟩:=Blk.c5 hy;have hgy:=hy.lt;clear hSw hy;go_simp;try with_reducible rfl) trivial hZ0 ?_;refine HT.one (i:=8) (by kernel_rfl) rfl (fun K hK=>?_);go_simp;refine (show Calls Tryz.prog 31 #[.slice A l.length cA,gA ⟨k,a,b,n,false⟩] wd _ from HSd.out).mono ?_;rintro e w5 ⟨rfl,hb5⟩;(try dsimp only);refine hK.out _ _ trivial hb5 ?_;clear hK K;(try simp only [HT.pS]);refine HT.tm 9 rfl trivial (fun _=>hb5) ?_;have h05:=HDR.out.trans (hb5.mono HDR.out.size);have hX5:=HXd.out.below hb5 HXd.out.lt;obtain ⟨⟨e0,e1,e2,e3,e4⟩,z0,z1,z2,z3,z4⟩:=Blk.c5 hX5;have hgl:=hX5.lt;obtain ⟨w6,hw6⟩:∃ v,w5.setCell ⟨w.heap.size,4,none⟩ (.bool se)=v:=⟨_,rfl⟩;have HW6:=Hi hw6;have HX6:=Hi (show Blk w6 w.heap.size 37 (gB ⟨k,a,b,n,se⟩) from by rw [←hw6];exact hX5.set 4 _);have hu56:Upd (·=w.heap.size) w5 w6:=by rw [←hw6];exact (Upd.refl (·=w.heap.size) w5).setCell (p:=⟨w.heap.size,4,none⟩) (fun _=>rfl) _
 have hu16:Upd (·=w.heap.size) w1 w6:=(Upd.of_below h05 _).trans hu56;have HU16:=Hi hu16;have HUB:=Hi (show Upd (XB lo hi bb bc kb) w w6 from ((Upd.of_below HB1.out (·=w.heap.size)).trans hu16).fresh fun k hk hlt=>by omega);clear hX5 h05 hw6 hu56 hu16;refine HT.oneS (i:=10) (by kernel_rfl) (by kernel_rfl) rfl (fun K hK=>?_);go_simp;(try dsimp only);refine hK.out _ _ trivial ?_;clear hK K;(try simp only [HT.pS]);refine HT.done (by kernel_rfl) ?_;rw [HW6.out];clear hZ0 hb5 e0 e1 e2 e3 e4 z0 z1 z2 z3 z4 hgl;have hg0:¬ bb=w.heap.size:=by omega
 have hg1:¬ bc=w.heap.size:=by omega
 have hB6:=HBL.out.upd HU16.out hg0;have hC6:=HC1.out.upd HU16.out hg1;have hO6:=Nm.own_updV HO1.out HU16.out fun b hb e=>by have:=(HAT.out b hb).2;omega
 obtain ⟨⟨e0,e1,e2,e3,e4⟩,z0,z1,z2,z3,z4⟩:=Blk.c5 hB6;obtain ⟨c0,c1,c2,c3,f0,f1,f2,f3⟩:=Blk.c4 hC6;have hgl:=hB6.lt;have hgc:=hC6.lt;have hlo6:w.heap.size < w6.heap.size:=HX6.out.lt;have HH6:=Hi HU16.out;go_upto_region 4 with fail
 have hdr:Below w6.heap.size w6 w6.drew:=Below.drew (Below.refl _ _);obtain ⟨wd2,hwd⟩:∃ v,w6.drew=v:=⟨_,rfl⟩;rw [hwd] at hdr;have HXd2:=Hi (HX6.out.below hdr HX6.out.lt);have HBd2:=Hi (hB6.below hdr hB6.lt);have HCd2:=Hi (hC6.below hdr hC6.lt);have HDR2:=Hi hdr;have HOd2:=Hi (Nm.own_updV hO6 (Upd.of_below hdr fun _=>False) fun _ _=>id);have hld:w.heap.size < wd2.heap.size:=HXd2.out.lt;have hZ0:Upd (fun k=>lo≤k∧k < hi) wd2 wd2:=Upd.refl _ _;clear hdr e0 e1 e2 e3 e4 z0 z1 z2 z3 z4 c0 c1 c2 c3 f0 f1 f2 f3 hgl hgc hB6 hC6 hO6;refine HT.wp_region (Z:=fun w'=>True) (S:=fun w'=>Upd (fun k=>lo≤k∧k < hi) wd2 w') (st:=[16]) (by kernel_rfl) ?_;rw [hwd];clear hwd;refine HT.tm 0 rfl trivial (fun _=>hZ0) ?_;refine HT.ts 1 rfl (by intro v hSw;have hy:=HBd2.out.upd hSw (by omega);obtain ⟨⟨e0,e1,e2,e3,e4⟩,z0,z1,z2,z3,z4⟩:=Blk.c5 hy;have hgy:=hy.lt;clear hSw hy;go_simp;try with_reducible rfl) trivial hZ0 ?_;refine HT.tm 2 rfl trivial (fun _=>hZ0) ?_;refine HT.ts 3 rfl (by intro v hSw;have hy:=HBd2.out.upd hSw (by omega);obtain ⟨⟨e0,e1,e2,e3,e4⟩,z0,z1,z2,z3,z4⟩:=Blk.c5 hy;have hgy:=hy.lt;clear hSw hy;go_simp;try with_reducible rfl) trivial hZ0 ?_;refine HT.tm 4 rfl trivial (fun _=>hZ0) ?_;refine HT.ts 5 rfl (by intro v hSw;have hy:=HBd2.out.upd hSw (by omega);obtain ⟨⟨e0,e1,e2,e3,e4⟩,z0,z1,z2,z3,z4⟩:=Blk.c5 hy;have hgy:=hy.lt;clear hSw hy;go_simp;try with_reducible rfl) trivial hZ0 ?_;refine HT.tm 6 rfl trivial (fun _=>hZ0) ?_;refine HT.ts 7 rfl (by intro v hSw;have hy:=HBd2.out.upd hSw (by omega);obtain ⟨⟨e0,e1,e2,e3,e4⟩,z0,z1,z2,z3,z4⟩:=Blk.c5 hy;have hgy:=hy.lt;clear hSw hy;go_simp;try with_reducible rfl) trivial hZ0 ?_;refine HT.ts 8 rfl (by intro v hSw;have hy:=HCd2.out.upd hSw (by omega);obtain ⟨c0,c1,c2,c3,f0,f1,f2,f3⟩:=Blk.c4 hy;have hgy:=hy.lt;clear hSw hy;go_simp;try with_reducible rfl) trivial hZ0 ?_;refine HT.tm 9 rfl trivial (fun _=>hZ0) ?_;refine HT.ts 10 rfl (by intro v hSw;have hy:=HCd2.out.upd hSw (by omega);obtain ⟨c0,c1,c2,c3,f0,f1,f2,f3⟩:=Blk.c4 hy;have hgy:=hy.lt;clear hSw hy;go_simp;try with_reducible rfl) trivial hZ0 ?_;refine HT.ts 11 rfl (by intro v hSw;have hy:=HXd2.out.upd hSw (by omega);obtain ⟨⟨e0,e1,e2,e3,e4⟩,z0,z1,z2,z3,z4⟩:=Blk.c5 hy;have hgy:=hy.lt;clear hSw hy;go_simp;try with_reducible rfl) trivial hZ0 ?_;obtain ⟨w7,hw7⟩:∃ v,wd2.alloc (.cells #[.int .i64 k,.int .i64 a,.int .i64 b,u n,.bool se] 37)=v:=⟨_,rfl⟩;have hb7:Below wd2.heap.size wd2 w7:=by rw [←hw7];exact (Below.refl _ _).alloc (Nat.le_refl _) _
 have hL7:Lies w7 (some ⟨wd2.heap.size,0,none⟩) (Gt.cells ⟨k,a,b,n,se⟩):=by rw [←hw7];exact lies_full _ _ (Gt.cells ⟨k,a,b,n,se⟩)
 have hz7:Upd (fun k=>lo≤k∧k < hi) wd2 w7:=Upd.of_below hb7 _;have HO7:=Hi (Nm.own_updV HOd2.out (Upd.of_below hb7 fun _=>False) fun _ _=>id);have hl7:lo≤w7.heap.size:=by have:=hb7.size;omega
 refine HT.one (i:=12) (by kernel_rfl) rfl (fun K hK=>?_);go_simp;(try rw [hw7]);(try dsimp only);refine hK.out _ _ trivial hz7 ?_;clear hK K;(try simp only [HT.pS]);refine HT.one (i:=13) (by kernel_rfl) rfl (fun K hK=>?_);refine step_any rfl (.tmp 40) (.tmp 42) 22 rfl lo 37 j0 (.agg #[.int .i64 0,.int .i64 0,.int .i64 0,.int .u32 0,.bool false]) 5 32 Tryz.underlying22 HJ.out HY0.out HY1.out HY2.out rfl (by decide) (.slice A l.length cA) l.length (l.flatMap Gt.cells) rfl HO7.out (some ⟨wd2.heap.size,0,none⟩) 1 1 (Gt.cells ⟨k,a,b,n,se⟩) rfl rfl hL7 (by simp [Value.oneCell']) (by unfold maxLen;omega) (by omega) hl7 ?_;intro u2 w8 hown hgrow hat;obtain ⟨Av,cv,rfl⟩:=own_sl hown;have hz8:Upd (fun k=>lo≤k∧k < hi) wd2 w8:=hz7.grown hgrow fun k hk hlt=>by
  have h1:=(HAT.out k hk).1;have h2:=(HAT.out k hk).2;exact ⟨h1,h2⟩
 (try dsimp only);refine hK.out _ _ trivial hz8 ?_;clear hK K;(try simp only [HT.pS]);refine HT.tm 14 rfl trivial (fun _=>hz8) ?_;refine HT.tm 15 rfl trivial (fun _=>hz8) ?_;have hC8:=HCd2.out.upd hz8 (by omega);obtain ⟨c0,c1,c2,c3,f0,f1,f2,f3⟩:=Blk.c4 hC8;have hgl:=hC8.lt;obtain ⟨w9,hw9⟩:∃ v,w8.setCell ⟨bc,0,none⟩ (.slice Av (l.length+1) cv)=v:=⟨_,rfl⟩;have HW9:=Hi hw9;have hu9:Upd (·=bc) w8 w9:=by rw [←hw9];exact (Upd.refl (·=bc) w8).setCell (p:=⟨bc,0,none⟩) (fun _=>rfl) _
 have hC9:Blk w9 bc 25 (crB Av (l.length+1) cv sc pb none 0 0):=by rw [←hw9];exact hC8.set 0 _
 have hB9:=(HBd2.out.upd hz8 (by omega)).upd hu9 (by omega);have hO9:=Nm.own_updV hown hu9 fun b hb e=>by have h1:=(Nm.own_atV hown b hb).1;omega
 have hM9:=((HH.out.m.upd HU16.out (by omega)).upd (Upd.of_below HDR2.out fun k=>lo≤k∧k < hi) (by omega)).upd hz8 (by omega) |>.upd hu9 (by omega)
 have hw16:=HUB.out;have hu02:Upd (XB lo hi bb bc kb) w wd2:=hw16.trans (Upd.of_below HDR2.out (XB lo hi bb bc kb));have hu09:Upd (XB lo hi bb bc kb) w w9:=(hu02.trans (hz8.mono fun k hk=>.inr (.inr (.inr hk)))).trans (hu9.mono fun k hk=>.inr (.inl hk));have HEND:=Hi (show BS lo w9.heap.size w9 bb bc kb q fm pl sc pb (l ++ [⟨k,a,b,n,se⟩]) kn∧Upd (XB lo hi bb bc kb) w w9 from
  ⟨⟨hB9,⟨Av,cv,by rw [List.length_append];exact hC9,by rw [List.length_append,List.flatMap_append,List.flatMap_singleton];exact hO9,fun g hg=>(Nm.own_atV hO9 g (by rw [List.length_append] at hg;exact hg)).2⟩,hM9,hd,⟨by have h1:=hu9.size;have h2:=hz8.size;omega,Nat.le_refl _⟩,HH.out.q⟩,hu09⟩)
 have HC9:=Hi hC9;have HB9:=Hi hB9;clear hu9 hC9 hB9 hO9 hM9 hu02 hu09 hC8 hown hgrow hat hw9;refine HT.oneS (i:=16) (by kernel_rfl) (by kernel_rfl) rfl (fun K hK=>?_);go_simp;(try dsimp only);refine hK.out _ _ trivial ?_;clear hK K;(try simp only [HT.pS]);refine HT.done (by kernel_rfl) ?_;rw [HW9.out];clear hZ0 hz7 hz8 c0 c1 c2 c3 f0 f1 f2 f3 hgl hb7 hL7 hw7 hl7;obtain ⟨⟨e0,e1,e2,e3,e4⟩,z0,z1,z2,z3,z4⟩:=Blk.c5 HB9.out;obtain ⟨c0,c1,c2,c3,f0,f1,f2,f3⟩:=Blk.c4 HC9.out;have hgl:=HB9.out.lt;have hgc:=HC9.out.lt;go_wp2_with fail
 go_ret
 trace_state
 exact ⟨rfl,HEND.out⟩
end Go.Proofs.YtdhoemlomojfaaaGreatDoor.Ci
namespace Go.Proofs.YtdhoemlomojfaaaGreatDoor.Ev
open Lx Pa Sh Go.Proofs.YtdhoemlomojfaaaGreatDoor.Nm Fl
abbrev Kn:=Bs→Option (BitVec 32)
abbrev loN0:Lo:=fun _=>none
def conB(z:Tz):Option (BitVec 32):=if (strB loN0 z).isNone=true then some (worB loN0 z) else none
def conL:Nat→List Tz→Option (BitVec 32)
 | _,[]=>some 0
 | 0,x :: _=>conB x
 | i+1,_ :: l=>conL i l
def selB(m a b:BitVec 32):BitVec 32:=(a &&& m) ||| (b &&& ~~~m)
mutual
def wdB(kn:Kn):Tz→BitVec 32
 | .mk k _ s n _ l=>if k = 0 then BitVec.ofNat 32 n else if k = 1 then (kn s).getD 0 else if k = 2 then unB s (wdL kn 0 l) else if k = 3 then boB s (wdL kn 0 l) (wdL kn 1 l)
   else if k = 4 then shB s (wdL kn 0 l) ((conL 1 l).getD 0) else selB (wdL kn 0 l) (wdL kn 1 l) (wdL kn 2 l)
def wdL(kn:Kn):Nat→List Tz→BitVec 32
 | _,[]=>0
 | 0,x :: _=>wdB kn x
 | i+1,_ :: l=>wdL kn i l
end
end Go.Proofs.YtdhoemlomojfaaaGreatDoor.Ev
namespace Go.Proofs.YtdhoemlomojfaaaGreatDoor.Ev
open Go Go.ChangeShapes Go.WideShapes Go.ChangeAt Go.RowKit Lx Args Pa Sh Go.Proofs.YtdhoemlomojfaaaGreatDoor.Nm WMath Fl
theorem res_c{fn:Func}{p:Tmp}(h:fn.results = #[.cell p 62])(tmps:Array Value)(W:World){g:Nat}{cs:Array Value}(hp:tmps.getD p undef = .pointer (some ⟨g,0,none⟩))(hg:Blk W g 62 cs)(hs:some 6=some cs.size) :
  (results fn tmps).run Tryz.prog W = .ok (.agg cs) W:=by
 have hp':tmps[p]?.getD undef = .pointer (some ⟨g,0,none⟩):=by simpa using hp
 have hq:=run_loadVar_row W g 62 62 cs (0,0) _ hg Tryz.underlying62 rfl (Fl.szNd.trans hs);simp [results,h,hp',asAddr,hq]
end Go.Proofs.YtdhoemlomojfaaaGreatDoor.Ev
