/- DERIVED. EvMs. By an AI agent. -/
import Derived.Test.YtcgibpdjfgjldaaGreatDoorU16
import Derived.Test.YtcgibpdjfgjldaaGreatDoorU19
set_option maxRecDepth 100000
set_option maxHeartbeats 8000000
set_option linter.unusedVariables false
set_option linter.unusedSimpArgs false
open Go Go.ChangeShapes Go.WideShapes Go.ChangeAt Go.RowKit
namespace Go.Proofs.YtcgibpdjfgjldaaGreatDoor
namespace Ev
open Lx Args Pa Sh Go.Proofs.YtcgibpdjfgjldaaGreatDoor.Nm WMath Fl
structure Rws(lo:Nat)(w:World)(v1:Value)(n:Nat)(xs:List Value)(v2:Value)(m:Nat)(ys:List Value):Prop where
 r1:w.ownsRow lo 9 1 v1 n xs
 r2:w.ownsRow lo 22 1 v2 m ys
 ap:∀ b,v1.ownBlock=some b->v2.ownBlock=some b->False
 le:lo<=w.heap.size
section
variable {lo n m : Nat} {w w' : World} {v1 v2 : Value} {xs ys : List Value}
theorem Rws.below(h:Rws lo w v1 n xs v2 m ys)(hb:Below w.heap.size w w'):Rws lo w' v1 n xs v2 m ys:=
 ⟨Nm.own_updV h.r1 (Upd.of_below hb fun _=>False) (fun _ _ h=>h),Nm.own_updV h.r2 (Upd.of_below hb fun _=>False) (fun _ _ h=>h),h.ap,Nat.le_trans h.le hb.size⟩
theorem Rws.app1(h:Rws lo w v1 n xs v2 m ys){u:Value}{k:Nat}{zs:List Value}(ho:w'.ownsRow lo 9 1 u k zs)(hg:w.grownBy w' v1.ownBlock)(ha:u.ownBlock=v1.ownBlock\/u.ownBlock=some w.heap.size):Rws lo w' u k zs v2 m ys:=by
 refine ⟨ho,Nm.own_updV h.r2 ((Upd.refl (fun b=>v1.ownBlock=some b) w).grown hg fun k hk _=>hk) (fun b h2 h1=>h.ap b h1 h2),fun b h1 h2=>?_,Nat.le_trans h.le hg.size⟩;rcases ha with h3 | h3
 ·exact h.ap b (h3.symm.trans h1) h2
 ·rw [h3] at h1;cases h1;exact absurd (Nm.own_atV h.r2 _ h2).2 (Nat.lt_irrefl _)
theorem Rws.app2(h:Rws lo w v1 n xs v2 m ys){u:Value}{k:Nat}{zs:List Value}(ho:w'.ownsRow lo 22 1 u k zs)(hg:w.grownBy w' v2.ownBlock)(ha:u.ownBlock=v2.ownBlock\/u.ownBlock=some w.heap.size):Rws lo w' v1 n xs u k zs:=by
 refine ⟨Nm.own_updV h.r1 ((Upd.refl (fun b=>v2.ownBlock=some b) w).grown hg fun k hk _=>hk) (fun b h1 h2=>h.ap b h1 h2),ho,fun b h1 h2=>?_,Nat.le_trans h.le hg.size⟩;rcases ha with h3 | h3
 ·exact h.ap b h1 (h3.symm.trans h2)
 ·rw [h3] at h2;cases h2;exact absurd (Nm.own_atV h.r1 _ h1).2 (Nat.lt_irrefl _)
theorem Rws.blk1(h:Rws lo w v1 n xs v2 m ys){X:Nat->Prop}{w0:World}(hu:Upd X w0 w)(hX:∀ b,lo<=b->X b)(hg:w.grownBy w' v1.ownBlock):Upd X w0 w':=hu.grown hg fun k hk _=>hX k (Nm.own_atV h.r1 k hk).1
theorem Rws.blk2(h:Rws lo w v1 n xs v2 m ys){X:Nat->Prop}{w0:World}(hu:Upd X w0 w)(hX:∀ b,lo<=b->X b)(hg:w.grownBy w' v2.ownBlock):Upd X w0 w':=hu.grown hg fun k hk _=>hX k (Nm.own_atV h.r2 k hk).1
end
theorem q39{w w':World}{p:Nat}{xs:List Value}{row:Option Nat}(h:Lies w (some ⟨p,0,none⟩) xs)(hg:w.grownBy w' row)(hp:p < w.heap.size)(hr:∀ b,row=some b->b≠p):Lies w' (some ⟨p,0,none⟩) xs:=fun j u hj=>by
 obtain ⟨a,ha,hc⟩:=h j u hj;cases ha;refine ⟨_,rfl,?_⟩;rw [Args.add_plain] at hc ⊢;exact (World.cell?_of_block (hg.block p hp fun e=>hr p e.symm rfl)).trans hc
def RmO(w:World)(g:Nat)(r:Rw):Prop:=∃ v1 v2,Blk w g 83 #[v1,v2,.slice none 0 0,.slice none 0 0,.slice none 0 0,.slice none 0 0]/\Rws (g+1) w v1 r.length (r.map fun p=>strV p.1) v2 r.length (r.map fun p=>uV p.2)/\r.length<=100
theorem RmO.lies{w:World}{g:Nat}{r:Rw}(h:RmO w g r):RmL w g r:=by
 obtain ⟨v1,v2,h1,h2,h3⟩:=h;obtain ⟨A,c,rfl⟩:=q0l h2.r1;obtain ⟨A2,c2,rfl⟩:=q0l h2.r2;exact ⟨A,c,A2,c2,h1,q0E h2.r1,q0E h2.r2,h3⟩
theorem RmO.below{w w':World}{g:Nat}{r:Rw}(h:RmO w g r)(hb:Below w.heap.size w w'):RmO w' g r:=by
 obtain ⟨v1,v2,h1,h2,h3⟩:=h;exact ⟨v1,v2,h1.below hb h1.lt,h2.below hb,h3⟩
theorem rset(w:World)(g:Nat)(r:Rw)(h:RmO w g r)(s:Bs)(x:BitVec 32)(hno:lkR r s=none)(hr:r.length < 100) :
  Calls Tryz.prog 39 #[.pointer (some ⟨g,0,none⟩),.string ⟨s.toArray⟩,uV x] w fun e w'=>e = .returned (.tuple #[])/\RmO w' g (r ++ [(s,x)])/\Upd (g<=·) w w':=by
 have HAT:=Hi (rat w g r h.lies s);obtain ⟨v1,v2,hX,hR,-⟩:=h;obtain ⟨i0,hi,hz0,hz1,hz2⟩:=info_parts infoS';have HI:=Hi hi;have HZ0:=Hi hz0;have HZ1:=Hi hz1;have HZ2:=Hi hz2;obtain ⟨j0,hj,hy0,hy1,hy2⟩:=info_parts infoU;have HJ:=Hi hj;have HY0:=Hi hy0;have HY1:=Hi hy1;have HY2:=Hi hy2;have HX:=Hi hX;have HR:=Hi hR;have HNO:=Hi hno;have HM1:=Hi (show (r ++ [(s,x)]).map (fun p=>strV p.1)=r.map (fun p=>strV p.1) ++ [strV s] from V3);have HM2:=Hi (show (r ++ [(s,x)]).map (fun p=>uV p.2)=r.map (fun p=>uV p.2) ++ [uV x] from V3);have HLN:=Hi (show (r ++ [(s,x)]).length=r.length+1 from V3);have hgl:=hX.lt;unfold AtP at HAT;clear hX hR hno hi hz0 hz1 hz2 hj hy0 hy1 hy2;go_enter Tryz.func39,Tryz.ntmps39;go_wp2_with fail
 refine (show Calls Tryz.prog 38 #[.pointer (some ⟨g,0,none⟩),.string ⟨s.toArray⟩,.int .i64 0] w _ from HAT.out).mono ?_;rintro e w2 ⟨rfl,(⟨rfl,-⟩ | ⟨i,y,rfl,-,-,hlk⟩)⟩;rotate_left
 ·exact absurd hlk (by rw [HNO.out];exact fun h=>by cases h)
 go_wp2_with fail
 have hdr:Below w2.heap.size w2 w2.drew:=Below.drew (Below.refl _ _);obtain ⟨wd,hwd⟩:∃ v,w2.drew=v:=⟨_,rfl⟩;rw [hwd] at hdr;have HXd:=Hi (HX.out.below hdr hgl);have hRd:=HR.out.below hdr;have HUd:=Hi (Upd.of_below hdr (g<=·));have hgd:g < wd.heap.size:=HXd.out.lt;have hg1:∀ b,g+1<=b->g < b:=fun b h=>h
 have hS0:Upd (g < ·) wd wd:=Upd.refl _ _;have HFIN:=Hi (show ∀ (W:World) (u1 u2:Value),Upd (g < ·) wd W->Rws (g+1) W u1 (r.length+1) (r.map (fun p=>strV p.1) ++ [strV s]) u2 (r.length+1) (r.map (fun p=>uV p.2) ++ [uV x])->RmO ((W.setCell ⟨g,0,none⟩ u1).setCell ⟨g,1,none⟩ u2) g (r ++ [(s,x)])/\Upd (g<=·) w2 ((W.setCell ⟨g,0,none⟩ u1).setCell ⟨g,1,none⟩ u2) from fun W u1 u2 hu hr2=>by
  have hXW:=HXd.out.upd hu (Nat.lt_irrefl _);have hu2:Upd (·=g) W ((W.setCell ⟨g,0,none⟩ u1).setCell ⟨g,1,none⟩ u2):=((Upd.refl (·=g) W).setCell (p:=⟨g,0,none⟩) (fun _=>rfl) u1).setCell (p:=⟨g,1,none⟩) (fun _=>rfl) u2;refine ⟨⟨u1,u2,(hXW.set 0 u1).set 1 u2,⟨?_,?_,hr2.ap,Nat.le_trans hr2.le hu2.size⟩,by rw [HLN.out];omega⟩,(HUd.out.trans (hu.mono fun b hb=>Nat.le_of_lt hb)).trans (hu2.mono fun b hb=>Nat.le_of_eq hb.symm)⟩
  ·rw [HLN.out,HM1.out];exact Nm.own_updV hr2.r1 hu2 fun b hb e=>by have:=(Nm.own_atV hr2.r1 b hb).1;omega
  ·rw [HLN.out,HM2.out];exact Nm.own_updV hr2.r2 hu2 fun b hb e=>by have:=(Nm.own_atV hr2.r2 b hb).1;omega)
 clear hdr;refine HT.wp_region (Z:=fun w'=>True) (S:=fun w'=>Upd (g < ·) wd w') (st:=[18,21]) V1 ?_;rw [hwd];clear hwd;refine HT.tm 0 rfl trivial (fun _=>hS0) ?_;refine HT.tm 1 rfl trivial (fun _=>hS0) ?_;refine HT.tm 2 rfl trivial (fun _=>hS0) ?_;refine HT.tm 3 rfl trivial (fun _=>hS0) ?_;refine HT.tm 4 rfl trivial (fun _=>hS0) ?_;refine HT.ts 5 rfl V37 trivial hS0 ?_;refine HT.tm 6 rfl trivial (fun _=>hS0) ?_;refine HT.tm 9 rfl trivial (fun _=>hS0) ?_;refine HT.tm 10 rfl trivial (fun _=>hS0) ?_;refine HT.tm 11 rfl trivial (fun _=>hS0) ?_;refine HT.ts 12 rfl V37 trivial hS0 ?_;refine HT.tm 13 rfl trivial (fun _=>hS0) ?_;refine HT.two (i:=7) (j:=14) V1 rfl rfl (fun K hK=>?_) (fun K hK=>?_)
 ·obtain ⟨W7,hW7⟩:∃ u,World.alloc wd (.cells #[.string ⟨s.toArray⟩] 9)=u:=⟨_,rfl⟩;go_simp;(try rw [hW7]);have hbW7:Below wd.heap.size wd W7:=V4n;have hL7:Lies W7 (some ⟨wd.heap.size,0,none⟩) [.string ⟨s.toArray⟩]:=V4o;have hlt7:wd.heap.size < W7.heap.size:=by rw [<-hW7];simp
  obtain ⟨p7,hp7⟩:∃ b,wd.heap.size=b:=⟨_,rfl⟩;rw [hp7] at hL7 hlt7;(try rw [hp7]);have hq7:wd.heap.size<=W7.heap.size:=hbW7.size;have hS7:Upd (g < ·) wd W7:=hS0.trans (Upd.of_below hbW7 _);have hR7:=hRd.below hbW7;clear hW7;(try dsimp only);refine hK.out _ _ trivial hS7 ?_;clear hK K;(try simp only [HT.pS]);refine HT.two (i:=8) (j:=14) V1 rfl rfl (fun K hK=>?_) (fun K hK=>?_)
  ·refine q0x rfl (.tmp 24) (.tmp 26) 24 rfl (g+1) 9 i0 (.string ⟨#[]⟩) 1 16 Tryz.underlying24 HI.out HZ0.out HZ1.out HZ2.out rfl V2 v1 r.length _ rfl hR7.r1 (some ⟨p7,0,none⟩) 1 1 [strV s] rfl rfl hL7 V0S V8 V0 hR7.le ?_;intro u1 W8 hown1 hgrow1 hat1;obtain ⟨A1,c1,rfl⟩:=q0l hown1;have hS8:Upd (g < ·) wd W8:=hR7.blk1 hS7 hg1 hgrow1;have hR8:=hR7.app1 hown1 hgrow1 hat1;have hbg1:=hgrow1;(try dsimp only);refine hK.out _ _ trivial hS8 ?_;clear hK K hown1 hat1;(try simp only [HT.pS]);refine HT.one (i:=14) V1 rfl (fun K hK=>?_);obtain ⟨W14,hW14⟩:∃ u,World.alloc W8 (.cells #[uV x] 22)=u:=⟨_,rfl⟩;go_simp;(try rw [hW14]);have hbW14:Below W8.heap.size W8 W14:=V1Q;have hL14:Lies W14 (some ⟨W8.heap.size,0,none⟩) [uV x]:=V1R;have hlt14:W8.heap.size < W14.heap.size:=by rw [<-hW14];simp
   obtain ⟨p14,hp14⟩:∃ b,W8.heap.size=b:=⟨_,rfl⟩;rw [hp14] at hL14 hlt14;(try rw [hp14]);have hq14:W8.heap.size<=W14.heap.size:=hbW14.size;have hS14:Upd (g < ·) wd W14:=hS8.trans (Upd.of_below hbW14 _);have hR14:=hR8.below hbW14;clear hW14;(try dsimp only);refine hK.out _ _ trivial hS14 ?_;clear hK K;(try simp only [HT.pS]);refine HT.one (i:=15) V1 rfl (fun K hK=>?_);refine q0x rfl (.tmp 31) (.tmp 33) 44 rfl (g+1) 22 j0 (.int .u32 0) 1 4 Tryz.underlying44 HJ.out HY0.out HY1.out HY2.out rfl V2 v2 r.length _ rfl hR14.r2 (some ⟨p14,0,none⟩) 1 1 [uV x] rfl rfl hL14 Vt V8 V0 hR14.le ?_;intro u2 W15 hown2 hgrow2 hat2;obtain ⟨A2,c2,rfl⟩:=q0l hown2;have hS15:Upd (g < ·) wd W15:=hR14.blk2 hS14 hg1 hgrow2;have hR15:=hR14.app2 hown2 hgrow2 hat2;exact V2j
  ·obtain ⟨W14,hW14⟩:∃ u,World.alloc W7 (.cells #[uV x] 22)=u:=⟨_,rfl⟩;go_simp;(try rw [hW14]);have hbW14:Below W7.heap.size W7 W14:=V1Q;have hL14:Lies W14 (some ⟨W7.heap.size,0,none⟩) [uV x]:=V1R;have hlt14:W7.heap.size < W14.heap.size:=by rw [<-hW14];simp
   obtain ⟨p14,hp14⟩:∃ b,W7.heap.size=b:=⟨_,rfl⟩;rw [hp14] at hL14 hlt14;(try rw [hp14]);have hq14:W7.heap.size<=W14.heap.size:=hbW14.size;have hS14:Upd (g < ·) wd W14:=hS7.trans (Upd.of_below hbW14 _);have hR14:=hR7.below hbW14;clear hW14;(try dsimp only);refine hK.out _ _ trivial hS14 ?_;clear hK K;(try simp only [HT.pS]);refine HT.one (i:=8) V1 rfl (fun K hK=>?_);refine q0x rfl (.tmp 24) (.tmp 26) 24 rfl (g+1) 9 i0 (.string ⟨#[]⟩) 1 16 Tryz.underlying24 HI.out HZ0.out HZ1.out HZ2.out rfl V2 v1 r.length _ rfl hR14.r1 (some ⟨p7,0,none⟩) 1 1 [strV s] rfl rfl (hL7.below hbW14) V0S V8 V0 hR14.le ?_;intro u1 W8 hown1 hgrow1 hat1;obtain ⟨A1,c1,rfl⟩:=q0l hown1;have hS8:Upd (g < ·) wd W8:=hR14.blk1 hS14 hg1 hgrow1;have hR8:=hR14.app1 hown1 hgrow1 hat1;have hbg1:=hgrow1;(try dsimp only);refine hK.out _ _ trivial hS8 ?_;clear hK K hown1 hat1;(try simp only [HT.pS]);refine HT.one (i:=15) V1 rfl (fun K hK=>?_);have hL14':Lies W8 (some ⟨p14,0,none⟩) [uV x]:=q39 hL14 hgrow1 V0 fun b hb=>by have:=(Nm.own_atV hR7.r1 b hb).2;omega
   exact V2A
 ·obtain ⟨W14,hW14⟩:∃ u,World.alloc wd (.cells #[uV x] 22)=u:=⟨_,rfl⟩;go_simp;(try rw [hW14]);have hbW14:Below wd.heap.size wd W14:=V1Q;have hL14:Lies W14 (some ⟨wd.heap.size,0,none⟩) [uV x]:=V1R;have hlt14:wd.heap.size < W14.heap.size:=by rw [<-hW14];simp
  obtain ⟨p14,hp14⟩:∃ b,wd.heap.size=b:=⟨_,rfl⟩;rw [hp14] at hL14 hlt14;(try rw [hp14]);have hq14:wd.heap.size<=W14.heap.size:=hbW14.size;have hS14:Upd (g < ·) wd W14:=hS0.trans (Upd.of_below hbW14 _);have hR14:=hRd.below hbW14;clear hW14;(try dsimp only);refine hK.out _ _ trivial hS14 ?_;clear hK K;(try simp only [HT.pS]);refine HT.one (i:=7) V1 rfl (fun K hK=>?_);obtain ⟨W7,hW7⟩:∃ u,World.alloc W14 (.cells #[.string ⟨s.toArray⟩] 9)=u:=⟨_,rfl⟩;go_simp;(try rw [hW7]);have hbW7:Below W14.heap.size W14 W7:=V4n;have hL7:Lies W7 (some ⟨W14.heap.size,0,none⟩) [.string ⟨s.toArray⟩]:=V4o;have hlt7:W14.heap.size < W7.heap.size:=by rw [<-hW7];simp
  obtain ⟨p7,hp7⟩:∃ b,W14.heap.size=b:=⟨_,rfl⟩;rw [hp7] at hL7 hlt7;(try rw [hp7]);have hq7:W14.heap.size<=W7.heap.size:=hbW7.size;have hS7:Upd (g < ·) wd W7:=hS14.trans (Upd.of_below hbW7 _);have hR7:=hR14.below hbW7;clear hW7;(try dsimp only);refine hK.out _ _ trivial hS7 ?_;clear hK K;(try simp only [HT.pS]);refine HT.one (i:=8) V1 rfl (fun K hK=>?_);refine q0x rfl (.tmp 24) (.tmp 26) 24 rfl (g+1) 9 i0 (.string ⟨#[]⟩) 1 16 Tryz.underlying24 HI.out HZ0.out HZ1.out HZ2.out rfl V2 v1 r.length _ rfl hR7.r1 (some ⟨p7,0,none⟩) 1 1 [strV s] rfl rfl hL7 V0S V8 V0 hR7.le ?_;intro u1 W8 hown1 hgrow1 hat1;obtain ⟨A1,c1,rfl⟩:=q0l hown1;have hS8:Upd (g < ·) wd W8:=hR7.blk1 hS7 hg1 hgrow1;have hR8:=hR7.app1 hown1 hgrow1 hat1;have hbg1:=hgrow1;(try dsimp only);refine hK.out _ _ trivial hS8 ?_;clear hK K hown1 hat1;(try simp only [HT.pS]);refine HT.one (i:=15) V1 rfl (fun K hK=>?_);have hL14':Lies W8 (some ⟨p14,0,none⟩) [uV x]:=q39 (hL14.below hbW7) hgrow1 (by have:=hbW7.size;omega) fun b hb=>by have:=(Nm.own_atV hRd.r1 b hb).2;omega
  exact V2A
end Ev
end Go.Proofs.YtcgibpdjfgjldaaGreatDoor
