/- DERIVED. RqDp, RqPr. By an AI agent. -/
import Derived.Test.YtcgibpdjfgjldaaGreatDoorR38
import Derived.Test.YtcgibpdjfgjldaaGreatDoorR39
set_option maxRecDepth 100000
set_option maxHeartbeats 4000000
set_option linter.unusedVariables false
set_option linter.unusedSimpArgs false
namespace Go.Proofs.YtcgibpdjfgjldaaGreatDoor
namespace Pq
open Go Go.ChangeShapes Go.WideShapes Go.ChangeAt Go.RowKit Lx Args Pa
section
attribute [local go_sem] bH bI bJ
theorem qs_box{w:World}{bp ba wy:Nat}{l:List Tk}(h:QS w bp l ba wy):∃ v0 v1,Aa w bp 60 #[v0,v1,.int .i64 (ba:Int),.int .i64 (wy:Int)]:=by
 obtain ⟨b,o,c,pre,_,h1,_⟩:=h;exact ⟨_,_,h1⟩
abbrev zV(a er:Nat):Value:=.tuple #[.agg zNd,.int .i64 (a:Int),.int .i64 (er:Int)]
theorem q7e(w:World)(bp ba wy:Nat)(t:Tk)(r:List Tk)(hp:QS w bp (t :: r) ba wy)(hw:wy≠0)(k a n la cA lb cB:Nat)(s:Bs)(A B:Option Addr) :
  Calls Tryz.prog 27 #[.pointer (some ⟨bp,0,none⟩),.agg #[.int .i64 (k:Int),.string ⟨s.toArray⟩,.int .u32 (n:Int),.int .i64 (a:Int),.slice A la cA,.slice B lb cB]] w fun e w'=>
   e = .returned (zV ba wy)/\Below w.heap.size w w':=by
 obtain ⟨w0,hw0,hb0,hX,hY⟩:=q79 w #[.int .i64 (k:Int),.string ⟨s.toArray⟩,.int .u32 (n:Int),.int .i64 (a:Int),.slice A la cA,.slice B lb cB];have HTK:=Hi (tok w0 bp ba wy t r (hp.below hb0));have hlt:=hp.lt;have Bb:=Hi (hp.below hb0);have HB0:=Hi hb0;have HY:=Hi hY;have HW:=Hi hw0;have hq:((wy:Int) != 0)=true:=V4;have hq2:((wy:Int)==0)=false:=V4;have HWY:=Hi hw;clear hp hb0 hX hY hw0 hw;go_enter Tryz.func27,Tryz.ntmps27;go_wp2_with fail
 rw [HW.out];refine HTK.out.mono ?_;rintro e w1 ⟨rfl,hb1⟩;have Be:=Hi (Bb.out.below hb1);have Az:=Hi fun b=>q0n w1 bp ba wy 100 b t r Be.out (.inr HWY.out)
 have HB1:=Hi (HB0.out.trans (hb1.mono HB0.out.size));have HY1:=Hi (HY.out.below hb1 HY.out.lt);have HPZ:=Be;obtain ⟨b',o,c,n',hn,hl,hc,hm,⟨c0,c1,c2,c3⟩,⟨u0,u1,u2,u3⟩,f4,f5,f6⟩:=Be.out.head;have hbl:=Be.out.lt;clear hb1 hn hl hc hm f4 f5 f6;go_wp2_with fail
 refine (Az.out _).mono ?_;rintro e w' ⟨rfl,rfl⟩;obtain ⟨⟨g0,g1,g2,g3,g4,g5⟩,y0,y1,y2,y3,y4,y5⟩:=Aa.c6 HY1.out;have hyl:=HY1.out.lt;go_wp2_with fail
 have hdr:Below w1.heap.size w1 w1.drew:=q0l (Below.refl _ _) 1;have HY2:=Hi (HY1.out.below hdr hyl);have HB2:=Hi (HB1.out.trans (hdr.mono HB1.out.size));clear hdr;have hne:bp≠w.heap.size+1:=V0;obtain ⟨v0,v1,hZB⟩:=qs_box HPZ.out;have aa:Aa w1.drew bp 60 #[v0,v1,.int .i64 (ba:Int),.int .i64 (wy:Int)]:=hZB;have HZB:=Hi hZB;clear hZB;refine HT.wp_region (Z:=fun w'=>Aa w' bp 60 #[v0,v1,.int .i64 (ba:Int),.int .i64 (wy:Int)]) (S:=fun _=>True) (st:=[]) V1 ?_;refine HT.bg (i:=0) (v:=?_) rfl V1 V1 V1 V1 (fun _ _ _ h=>h) (Or.inl ⟨V8,?_⟩) aa (fun _=>trivial) ?_;rotate_left
 ·exact Vv
 (try simp only [HT.pS]);refine HT.bg (i:=1) (v:=?_) rfl V1 V1 V1 V1 (fun _ _ _ h=>h) (Or.inl ⟨V8,?_⟩) aa (fun _=>trivial) ?_;rotate_left
 ·exact Vv
 (try simp only [HT.pS]);refine HT.bg (i:=2) (v:=?_) rfl V1 V1 V1 V1 (fun _ _ _ h=>h) (Or.inl ⟨V8,?_⟩) aa (fun _=>trivial) ?_;rotate_left
 ·exact Vv
 (try simp only [HT.pS]);refine HT.bg (i:=3) (v:=?_) rfl V1 V1 V1 V1 (fun _ _ _ h=>h) (Or.inl ⟨V8,?_⟩) aa (fun _=>trivial) ?_;rotate_left
 ·exact Vv
 (try simp only [HT.pS]);refine HT.bg (i:=4) (v:=?_) rfl V1 V1 V1 V1 (fun _ _ _ h=>h) (Or.inl ⟨V8,?_⟩) aa (fun _=>trivial) ?_;rotate_left
 ·exact Vv
 (try simp only [HT.pS]);refine HT.bg (i:=5) (v:=?_) rfl V1 V1 V1 V1 (fun _ _ _ h=>h) (Or.inl ⟨V8,?_⟩) aa (fun _=>trivial) ?_;rotate_left
 ·exact Vv
 (try simp only [HT.pS]);refine HT.bg (i:=6) (v:=?_) rfl V1 V1 V1 V1 (fun _ _ _ h=>h) (Or.inl ⟨V8,?_⟩) aa (fun _=>trivial) ?_;rotate_left
 ·exact Vv
 (try simp only [HT.pS]);refine HT.bg (i:=7) (v:=?_) rfl V1 V1 V1 V1 (fun _ _ _ h=>h) (Or.inl ⟨V8,?_⟩) aa (fun _=>trivial) ?_;rotate_left
 ·exact Vv
 (try simp only [HT.pS]);refine HT.bg (i:=8) (v:=?_) rfl V1 V1 V1 V1 (fun _ _ _ h=>h) (Or.inl ⟨V8,?_⟩) aa (fun _=>trivial) ?_;rotate_left
 ·exact Vv
 (try simp only [HT.pS]);refine HT.one (i:=9) V1 rfl (fun K hK=>?_);go_simp;refine hK.out _ _ V1p trivial ?_;clear hK K;(try simp only [HT.pS]);refine HT.one (i:=10) V1 rfl (fun K hK=>?_);go_simp;refine hK.out _ _ V1p trivial ?_;clear hK K;(try simp only [HT.pS]);refine HT.one (i:=11) V1 rfl (fun K hK=>?_);go_simp;refine hK.out _ _ V1p trivial ?_;clear hK K;(try simp only [HT.pS]);refine HT.done V1 ?_;dsimp only [Exit.then];go_wp2_with fail
 exact bodyPost_ret (v:=zV ba wy) (q1P rfl _ _ rfl (Aa.drew (Aa.az HY1.out _ _ _ _ _ _)) rfl rfl rfl) rfl ⟨rfl,((((((HB1.out.setCell (Nat.le_succ _) _).setCell (Nat.le_succ _) _).setCell (Nat.le_succ _) _).setCell (Nat.le_succ _) _).setCell (Nat.le_succ _) _).setCell (Nat.le_succ _) _).drew⟩
theorem q7f{R:List Tk->Out->Prop}{s:ByteArray}{w w':World}{a er:Nat}(h:BadR R (af s.data.toList) a er)(hb:Below w.heap.size w w'):RdP R s w (.returned (zV a er)) w':=.inr ⟨a,er,rfl,h,hb⟩
theorem qs_new{w:World}{A:Option Addr}{c:Nat}{l:List Tk}(hg:Gt l)(hL:Af w A (l.flatMap tkC)):QS (w.alloc (.cells #[.slice A l.length c,.int .i64 0,.int .i64 0,.int .i64 0] 60)) w.heap.size l 0 0:=by
 obtain ⟨t,r,rfl⟩:=hg.cons;obtain ⟨b,o,rfl,hb,_⟩:=hL.at_ (j:=0) (u:=.int .i64 (t.k:Int)) rfl;exact ⟨b,o,c,[],hb,by simpa using Aa.new w 60 #[.slice (some ⟨b,o,none⟩) (t :: r).length c,.int .i64 0,.int .i64 0,.int .i64 0],hL.below ((Below.refl _ _).alloc (Nat.le_refl _) _),by simpa using hg.few⟩
end
end Pq
end Go.Proofs.YtcgibpdjfgjldaaGreatDoor
namespace Go.Proofs.YtcgibpdjfgjldaaGreatDoor.Pa
open Go Go.RowKit Lx Args
theorem ae{X:Nat->Prop}{w w':World}{base:Nat}{e:TypeId}{size n:Nat}{v:Value}{xs:List Value}(h:w.ownsRow base e size v n xs)(hu:Upd X w w')(hX:∀ g,v.ownBlock=some g->¬ X g):w'.ownsRow base e size v n xs:=by
 obtain ⟨h1,h2⟩:=h;refine ⟨h1,?_⟩;rcases h2 with h2 | ⟨g,cap,cur,e1,h3,h4,h5⟩
 ·exact .inl h2
 ·exact V35
theorem av{w:World}{lo:Nat}{e:TypeId}{size n:Nat}{v:Value}{xs:List Value}(h:w.ownsRow lo e size v n xs):∀ g,v.ownBlock=some g->lo<=g/\g < w.heap.size:=fun g hg=>by
 rcases h.2 with ⟨h,_⟩ | ⟨g',cap,cur,h,hb,hh,_⟩
 ·rw [h] at hg;cases hg
 ·rw [h] at hg;cases hg;exact V1S
def ArrV(e:TypeId)(lo:Nat)(w:World)(v:Value)(xs:List Tr):Prop:=∃ css,w.ownsRow lo e 6 v xs.length css.flatten/\AJ (fun b=>lo<=b/\v.ownBlock≠some b) w xs css
theorem ArrV.nil(e:TypeId)(lo:Nat)(w:World):ArrV e lo w (.slice none 0 0) []:=⟨[],World.ownsRow_nil _ _ _ _,V0C⟩
theorem ArrV.upd{X:Nat->Prop}{e:TypeId}{lo:Nat}{w w':World}{v:Value}{xs:List Tr}(h:ArrV e lo w v xs)(hu:Upd X w w')(hX:∀ b,X b->b < lo):ArrV e lo w' v xs:=by
 obtain ⟨css,h1,h2⟩:=h;exact ⟨css,ae h1 hu fun g hg hx=>by have:=av h1 g hg;have:=hX g hx;omega,h2.upd hu fun b hb hx=>V11⟩
theorem av_step{e:TypeId}{lo bp:Nat}{wr w1 w8:World}{v:Value}{g8 c8:Nat}{xs:List Tr}{css:List (List Value)}{x:Tr}{cs:List Value}(how:wr.ownsRow lo e 6 v xs.length css.flatten)(hts:AJ (fun b=>lo<=b/\v.ownBlock≠some b) wr xs css)(hlo:lo<=wr.heap.size)(hlt:bp < lo)
  (hU:Upd (fun b=>b=bp) wr w1) (hT:Ak (fun b=>wr.heap.size<=b) w1 x cs) (hE:AppE lo e 6 (w1.alloc (.cells cs.toArray e)) v xs.length 1 (css.flatten ++ cs) g8 c8 w8) :
  ArrV e lo w8 (.slice (some ⟨g8,0,none⟩) (xs.length+1) c8) (xs ++ [x]):=by
 have ha:Upd (fun _=>False) w1 (w1.alloc (.cells cs.toArray e)):=(Upd.refl _ w1).alloc _;have hg:Upd (fun b=>v.ownBlock=some b) (w1.alloc (.cells cs.toArray e)) w8:=(Upd.refl (fun b=>v.ownBlock=some b) _).grown hE.grown fun k hk _=>hk
 have hsz:=hU.size;have hne:∀ b,v.ownBlock≠some b->b < (w1.alloc (.cells cs.toArray e)).heap.size->b≠g8:=fun b hb hs h=>by
  rcases hE.at_ with h5 | h5
  ·rw [h] at hb;exact hb h5.symm
  ·omega
 have a1:AJ (fun b=>lo<=b/\v.ownBlock≠some b/\b≠g8) (w1.alloc (.cells cs.toArray e)) xs css:=((hts.upd hU fun b hb e=>V0).upd ha fun _ _ h=>h).mono fun b hb hs=>⟨hb.1,hb.2,hne b hb.2 hs⟩
 have a2:AJ (fun b=>lo<=b/\v.ownBlock≠some b/\b≠g8) (w1.alloc (.cells cs.toArray e)) [x] [cs]:=q12 ((hT.upd ha fun _ _ h=>h).mono fun b hb hs=>by
  have h1:v.ownBlock≠some b:=fun h=>by have:=av how b h;omega
  exact ⟨V0,h1,hne b h1 hs⟩)
 refine ⟨css ++ [cs],?_,((q1R a1 a2).upd hg fun b hb h=>hb.2.1 h).mono fun b hb _=>⟨hb.1,fun h=>hb.2.2 (by cases h;rfl)⟩⟩;rw [List.length_append,List.flatten_append];simpa using hE.own
theorem ArrV.node{e:TypeId}{lo:Nat}{w:World}{A:Option Addr}{c:Nat}{xs:List Tr}(h:ArrV e lo w (.slice A xs.length c) xs)(hl:xs.length<=100000)(k a n:Nat)(s:Bs):Ak (fun b=>lo<=b) w (.mk k a s n [] xs) (bG k a s n A xs.length c none 0 0):=by
 obtain ⟨css,h1,h2⟩:=h;unfold Ak;refine ⟨_,_,none,0,rfl,own_cap h1 hl,⟨V3,V3,V2⟩,Af.nil _ _,fun b o e=>VI,css,?_,fun b o e hne=>?_,h2.mono fun b hb _=>hb.1⟩
 ·rcases h1.2 with ⟨h,h0⟩ | ⟨g',cap,cur,h,_⟩
  ·have:xs=[]:=List.eq_nil_of_length_eq_zero h0;subst this;unfold AJ at h2;subst h2;exact Af.nil _ _
  ·cases h;exact fun j u hj=>⟨_,rfl,h1.cells (g:=g') rfl j u hj⟩
 ·subst e;rcases h1.2 with ⟨h,h0⟩ | ⟨g',cap,cur,h,hb,_⟩
  ·cases h
  ·cases h;exact hb
end Go.Proofs.YtcgibpdjfgjldaaGreatDoor.Pa
namespace Go.Proofs.YtcgibpdjfgjldaaGreatDoor.Pq
open Go Go.ChangeShapes Go.WideShapes Go.ChangeAt Go.RowKit Lx Args Pa
attribute [local go_sem] bH bI bJ
theorem q8j{e:TypeId}{lo bo n m g8 c8:Nat}{we w8:World}{o:Obj}{v:Value}{xs:List Value}{t:TypeId}{cs:Array Value}(hE:AppE lo e 6 (we.alloc o) v n m xs g8 c8 w8)(hB:Aa we bo t cs)(hg:∀ g,v.ownBlock=some g->bo < g):Aa w8 bo t cs:=
 hB.upd ((((Upd.refl (fun b=>v.ownBlock=some b) we).alloc _).grown hE.grown fun k hk _=>hk)) fun h=>by have:=hg _ h;omega
def PrI(bp bo:Nat)(l:List Tk)(A:Option Addr)(n c:Nat)(W:World):Prop:=
 (∃ l' zs,n=zs.length/\QS W bp l' 0 0/\Gt l'/\zs.length+l'.length<=4000/\ArrV 26 (bo+1) W (.slice A zs.length c) zs/\∀ o,Rd ag (.stmts zs) 0 l' o->Rd ag (.stmts []) 0 l o) \/
 (∃ ba er t r,er≠0/\Rd ag (.stmts []) 0 l (.bad ba er)/\QS W bp (t :: r) ba er)
theorem r_program(s:ByteArray)(w:World):Calls Tryz.prog 9 #[.string s] w (RdP Al s w):=by
 obtain ⟨i0,hi,hz⟩:=Option.map_eq_some_iff.1 infoNd;have hz0:=congrArg (·.1) hz;have hz1:=congrArg (·.2.1) hz;have hz2:=congrArg (·.2.2) hz;have HI:=Hi hi;have HZ0:=Hi hz0;have HZ1:=Hi hz1;have HZ2:=Hi hz2;clear hi hz hz0 hz1 hz2;obtain ⟨w0,hw0,hb0,hB⟩:=q04 w;have HWD:=Hi (words s w0);have HB0:=Hi hb0;have HB:=Hi hB;have HW:=Hi hw0;have hlb:=hB.lt;clear hb0 hw0 hB;go_enter Tryz.func9,Tryz.ntmps9;go_wp2_with fail
 rw [HW.out];refine HWD.out.mono ?_;rintro e w1 ⟨A,c,rfl,hL,hb1⟩;by_cases her:(af s.data.toList).er = 0;rotate_left
 ·have hq:(((af s.data.toList).er:Int) != 0)=true:=by simp;omega
  have hbad:BadR Al (af s.data.toList) (af s.data.toList).at_ (af s.data.toList).er:=.inl ⟨her,rfl,rfl⟩;generalize (af s.data.toList).l.length=n at *;have hX:=HB.out.below hb1 HB.out.lt;obtain ⟨⟨e0,e1,e2,e3,e4,e5⟩,z0,z1,z2,z3,z4,z5⟩:=Aa.c6 hX;have hxl:=hX.lt;have Ac:=Hi (q7f hbad (((((((HB0.out.trans (hb1.mono HB0.out.size)).setCell (p:=⟨w.heap.size,0,none⟩) (Nat.le_refl _) (.int .i64 0)).setCell (p:=⟨w.heap.size,1,none⟩) (Nat.le_refl _) (.string ⟨#[]⟩)).setCell (p:=⟨w.heap.size,2,none⟩) (Nat.le_refl _) (.int .u32 0)).setCell (p:=⟨w.heap.size,3,none⟩) (Nat.le_refl _) (.int .i64 0)).setCell (p:=⟨w.heap.size,4,none⟩) (Nat.le_refl _) (.slice none 0 0)).setCell (p:=⟨w.heap.size,5,none⟩) (Nat.le_refl _) (.slice none 0 0)));generalize (af s.data.toList).er=er at *;generalize (af s.data.toList).at_=at_ at *;have HX:=Hi hX;clear hL hb1 hbad her hX;go_wp2_with fail
  exact bodyPost_ret (v:=zV at_ er) (q1P rfl _ _ rfl (Aa.az HX.out _ _ _ _ _ _) rfl rfl rfl) rfl Ac.out
 rw [her];have hg:=q3B her;obtain ⟨l,hl⟩:∃ l,(af s.data.toList).l=l:=⟨_,rfl⟩;have hrdp:∀ a er,Rd ag (.stmts []) 0 l (.bad a er)->BadR Al (af s.data.toList) a er:=fun a er h=>.inr ⟨her,.inl (by rw [hl];exact h)⟩
 rw [hl] at hg hL ⊢;generalize (af s.data.toList).at_=at_;obtain ⟨w2,hw2,hb2,-⟩:=aS w1 #[.slice A l.length c,.int .i64 0,.int .i64 0,.int .i64 0] 60;have hq2:QS w2 w1.heap.size l 0 0:=by rw [<-hw2];exact qs_new hg hL
 obtain ⟨ln,hln⟩:∃ ln,l.length=ln:=⟨_,rfl⟩;rw [hln] at hw2 ⊢;clear hln;obtain ⟨t0,r0,rfl⟩:=hg.cons;have h01:=hb1.size;have h12:=hb2.size;have hbpl:=hq2.lt;have Ah:=Hi ((HB.out.below hb1 HB.out.lt).below hb2 V0);have HB2:=Hi ((HB0.out.trans (hb1.mono HB0.out.size)).trans (hb2.mono (HB0.out.trans (hb1.mono HB0.out.size)).size));have HT:=Hi (tok w2 w1.heap.size 0 0 t0 r0 hq2);have AL:=Hi hq2;have HG:=Hi hg;have HW2:=Hi hw2;have HRB:=Hi hrdp;have HL:=Hi hl;have HER:=Hi her;clear hb1 hb2 hq2 hw2 hL hrdp hl her hg;go_wp2_with fail
 rw [HW2.out];refine HT.out.mono ?_;rintro e w3 ⟨rfl,hb3⟩;have h23:=hb3.size;have HQ3:=Hi (AL.out.below hb3);have Aq:=Hi (Ah.out.below hb3 Ah.out.lt);have HB3:=Hi (HB2.out.trans (hb3.mono HB2.out.size));clear hb3 HT AL Ah HB2 HW2;go_wp2_with fail
 refine (show Calls Tryz.prog 24 #[.int .i64 13,.int .i64 (t0.at_:Int),.string ⟨#[]⟩,.slice none 0 0] w3 _ from node w3 13 t0.at_ [] none 0 0).mono ?_;rintro e w4 ⟨rfl,hb4⟩;have h34:=hb4.size;obtain ⟨bo,hbo⟩:∃ bo,w4.heap.size=bo:=⟨_,rfl⟩;obtain ⟨w5,hw5,hb5,-⟩:=aS w4 #[.int .i64 13,.string ⟨#[]⟩,.int .u32 0,.int .i64 (t0.at_:Int),.slice none 0 0,.slice none 0 0] 26;have hbx5:Aa w5 bo 26 #[.int .i64 13,.string ⟨#[]⟩,.int .u32 0,.int .i64 (t0.at_:Int),.slice none 0 0,.slice none 0 0]:=by rw [<-hw5,<-hbo];exact Aa.new _ _ _
 have hb35:Below w3.heap.size w3 w5:=hb4.trans (hb5.mono hb4.size);have AX:=Hi (Aq.out.below hb35 Aq.out.lt);have HB5:=Hi (HB3.out.trans (hb35.mono HB3.out.size));have HW5:=Hi hw5;have HBO5:=Hi hbx5;have HJ:Hid (PrI w1.heap.size bo (t0 :: r0) none 0 0 w5):=Hi (.inl ⟨t0 :: r0,[],rfl,HQ3.out.below hb35,HG.out,by simpa using HG.out.few,ArrV.nil _ _ _,fun o h=>h⟩);have hlbo:w1.heap.size < bo:=V0;clear hb4 hb5 hb35 hw5 hbx5 HQ3 Aq HB3;go_wp2_with fail
 rw [HW5.out]
 go_loopw [] (fun wr=>∃ A n c,Hid (PrI w1.heap.size bo (t0 :: r0) A n c wr)/\Hid (Aa wr bo 26 #[.int .i64 13,.string ⟨#[]⟩,.int .u32 0,.int .i64 (t0.at_:Int),.slice A n c,.slice none 0 0])/\Hid (Aa wr w.heap.size 26 zNd)/\Hid (Below w.heap.size w wr)) (fun wr=>meQ wr w1.heap.size)
 case atStart=>exact ⟨none,0,0,HJ,HBO5,AX,HB5⟩
 case round=>
  clear HJ HBO5 AX HB5 HW5;obtain ⟨A',n,c',HJ,HBOr,HXr,HBr⟩:=hrel;have hbol:=HBOr.out.lt;have hbrs:=HBr.out.size;rcases HJ.out with ⟨l',zs,rfl,hql,hgl,hfl,hAr,hrd⟩ | ⟨ba,er,v,r',he,hR9,hP9⟩
  ·obtain ⟨v,r',rfl⟩:=hgl.cons;obtain ⟨b',o',c2,n',hnn,hln,hcc,hmm,⟨c0,c1,c2',c3⟩,⟨z0,z1,z2,z3⟩,f4,f5,f6⟩:=hql.head;have hbpl2:=hql.lt;have HQL:=Hi hql;have HGL:=Hi hgl;have HAR:=Hi hAr;have HRD:=Hi hrd;have HTK:=Hi (tok wr w1.heap.size 0 0 v r' hql);simp only [List.length_cons] at hfl;clear hql hgl hAr hrd HJ hnn hln hcc hmm c0 c1 c2' z0 z1 z2 z3 f4 f5 f6;by_cases hk:v.k = 0
   ·have hq:((v.k:Int) != 0)=false:=by simp;omega
    have HK:=Hi hk;clear hk;go_wp2_with fail
    refine HTK.out.mono ?_;rintro e wa ⟨rfl,aL⟩;have hbo6:=HBOr.out.below aL hbol;obtain ⟨⟨e0,e1,e2,e3,e4,e5⟩,z0,z1,z2,z3,z4,z5⟩:=Aa.c6 hbo6;have hbo6l:=hbo6.lt;have HD:=Hi (done_ok wa w1.heap.size v r' (HQL.out.below aL) HK.out 13 t0.at_ 0 zs.length c' 0 0 [] A' none);have HTa:=Hi ((HAR.out.upd (Upd.of_below aL fun _=>False) fun _ h=>h.elim).node V0 13 t0.at_ 0 []);have HXa:=Hi (HXr.out.below aL HXr.out.lt);have HBa:=Hi (HBr.out.trans (aL.mono HBr.out.size));clear aL hbo6 HTK c3;go_wp2_with fail
    refine (show Calls Tryz.prog 27 #[.pointer (some ⟨w1.heap.size,0,none⟩),.agg #[.int .i64 13,.string ⟨#[]⟩,.int .u32 0,.int .i64 (t0.at_:Int),.slice A' zs.length c',.slice none 0 0]] wa _ from HD.out).mono ?_;rintro e wd ⟨rfl,hbd⟩;have hX:=HXa.out.below hbd HXa.out.lt;have hxl:=hX.lt;clear e0 e1 e2 e3 e4 e5 z0 z1 z2 z3 z4 z5;obtain ⟨⟨e0,e1,e2,e3,e4,e5⟩,z0,z1,z2,z3,z4,z5⟩:=Aa.c6 hX;have hu:Upd (fun b=>b=w.heap.size) wd _:=q09 (X:=fun b=>b=w.heap.size) (Upd.refl _ wd) (fun _=>rfl) (.int .i64 13) (.string ⟨#[]⟩) (.int .u32 0) (.int .i64 (t0.at_:Int)) (.slice A' zs.length c') (.slice none 0 0);have Ac:=Hi (show RdP Al s w (.returned (.tuple #[.agg #[.int .i64 13,.string ⟨#[]⟩,.int .u32 0,.int .i64 (t0.at_:Int),.slice A' zs.length c',.slice none 0 0],.int .i64 0,.int .i64 0])) _ from
     .inl ⟨13,t0.at_,[],0,A',zs.length,c',none,0,0,.mk 13 t0.at_ [] 0 [] zs,v,r',rfl,HER.out,by rw [HL.out];exact ⟨zs,rfl,HRD.out _ (q2Q HK.out),v,r',rfl,HK.out⟩,HK.out,tup (tfar (HTa.out.upd (Upd.of_below hbd fun _=>False) fun _ _ h=>h) hu fun b hb=>V0) V0,((Upd.of_below (HBa.out.trans (hbd.mono HBa.out.size)) (fun b=>b=w.heap.size)).trans hu).below (Nat.le_refl _) fun k hk=>V0⟩)
    have HN:=Hi (Aa.az hX (.int .i64 13) (.string ⟨#[]⟩) (.int .u32 0) (.int .i64 (t0.at_:Int)) (.slice A' zs.length c') (.slice none 0 0));clear hX hu hbd;go_wp2_with fail
    exact bodyPost_ret (v:=.tuple #[.agg #[.int .i64 13,.string ⟨#[]⟩,.int .u32 0,.int .i64 (t0.at_:Int),.slice A' zs.length c',.slice none 0 0],.int .i64 0,.int .i64 0]) (q1P rfl _ _ rfl HN.out rfl rfl rfl) rfl Ac.out
   ·have hq:((v.k:Int) != 0)=true:=by simp;omega
    have HK:=Hi hk;clear hk;go_wp2_with fail
    refine HTK.out.mono ?_;rintro e wa ⟨rfl,aL⟩;have hra:=aL.size;have HS1:=Hi (stq wa w1.heap.size (v :: r') (HQL.out.below aL) HGL.out);have AA:=Hi aL;clear aL HTK c3;go_wp2_with fail
    refine HS1.out.mono ?_;rintro e wd ⟨k',a',s',m',A2,la',bu,B',lb',bA,rfl,hU,hO⟩;obtain ⟨we,hwe,hbe,-⟩:=aS wd #[.int .i64 (k':Int),.string ⟨s'.toArray⟩,.int .u32 (m':Int),.int .i64 (a':Int),.slice A2 la' bu,.slice B' lb' bA] 26;have hse:we.heap.size=wd.heap.size+1:=by rw [<-hwe];simp
    have hsd:=hU.size;have hure:UB w1.heap.size wr we:=((q01 AA.out).trans hU).trans (q01 hbe);obtain ⟨css,how,hts⟩:=HAR.out;have hgg:=av how;have how':=ae how hure fun g hg hx=>by have:=hgg g hg;omega
    have HOA:=Hi (World.ownsRow.alloc how' (.cells #[.int .i64 (k':Int),.string ⟨s'.toArray⟩,.int .u32 (m':Int),.int .i64 (a':Int),.slice A2 la' bu,.slice B' lb' bA] 26));have HLI:=Hi (q06 we 26 (bG k' a' s' m' A2 la' bu B' lb' bA));have HBS:=Hi (show bo+1<=(we.alloc (.cells #[.int .i64 (k':Int),.string ⟨s'.toArray⟩,.int .u32 (m':Int),.int .i64 (a':Int),.slice A2 la' bu,.slice B' lb' bA] 26)).heap.size from V4);have hboe:=HBOr.out.upd hure (show ¬ bo=w1.heap.size from V0);have hbod:=HBOr.out.upd ((q01 AA.out).trans hU) (show ¬ bo=w1.heap.size from V0);obtain ⟨⟨e0,e1,e2,e3,e4,e5⟩,y0,y1,y2,y3,y4,y5⟩:=Aa.c6 hbod;have hboel:=hbod.lt;clear hbod;have HOW:=Hi how;have HTS:=Hi hts;have HURE:=Hi hure;have HO:=Hi hO;have HBE:=Hi hbe;have HWE:=Hi hwe;have HSE:=Hi hse;have HBOE:=Hi hboe;have HGG:=Hi hgg;have HXe:=Hi (HXr.out.upd hure (show ¬ w.heap.size=w1.heap.size from V0));have HBe:=Hi (HBr.out.trans (hure.below (B:=w.heap.size) V0 fun k hk=>V0));clear how how' hts hure hU hO hbe hwe hboe hgg;rw [hse] at HLI;go_wp2_with (at_builtin;rw [HWE.out];refine q0d rfl _ _ 23 rfl (bo+1) 26 i0 (.agg zNd) 6 88 Tryz.underlying23 HI.out HZ0.out HZ1.out HZ2.out rfl V2 _ zs.length _ rfl HOA.out ⟨wd.heap.size+1,0,none⟩ 1 1 (bG k' a' s' m' A2 la' bu B' lb' bA) rfl rfl HLI.out VN V6 V0 HBS.out V2 ?_;intro g8 c8 w8' hE;have HE8:=Hi hE;have hbo8:=q8j hE HBOE.out (fun g hg=>by have:=HGG.out g hg;omega);clear hE e0 e1 e2 e3 e4 e5 y0 y1 y2 y3 y4 y5;obtain ⟨⟨e0,e1,e2,e3,e4,e5⟩,y0,y1,y2,y3,y4,y5⟩:=Aa.c6 hbo8;have hbo8l:=hbo8.lt;have HBO8:=Hi hbo8;clear hbo8)
    have bU:Upd (fun b=>(Value.slice A' zs.length c').ownBlock=some b) we w8':=((Upd.refl (fun b=>(Value.slice A' zs.length c').ownBlock=some b) we).alloc _).grown HE8.out.grown fun k hk _=>hk
    have aV:=bU.size;have HBO9:=Hi (show Aa (w8'.setCell ⟨bo,4,none⟩ (.slice (some ⟨g8,0,none⟩) (zs.length+1) c8)) bo 26 #[.int .i64 13,.string ⟨#[]⟩,.int .u32 0,.int .i64 (t0.at_:Int),.slice (some ⟨g8,0,none⟩) (zs.length+1) c8,.slice none 0 0] from HBO8.out.set 4 _);have hu9:Upd (fun b=>b=bo) w8' (w8'.setCell ⟨bo,4,none⟩ (.slice (some ⟨g8,0,none⟩) (zs.length+1) c8)):=(Upd.refl (fun b=>b=bo) w8').setCell (fun _=>rfl) _;have hX9:=(HXe.out.upd bU fun h=>by have:=HGG.out _ h;omega).upd hu9 (show ¬ w.heap.size=bo from V0);have hB9:Below w.heap.size w (w8'.setCell ⟨bo,4,none⟩ (.slice (some ⟨g8,0,none⟩) (zs.length+1) c8)):=(HBe.out.trans (bU.below V0 fun k hk=>by have:=HGG.out _ hk;omega)).trans (hu9.below V0 fun k hk=>V0);have hJ9:PrI w1.heap.size bo (t0 :: r0) (some ⟨g8,0,none⟩) (zs.length+1) c8 (w8'.setCell ⟨bo,4,none⟩ (.slice (some ⟨g8,0,none⟩) (zs.length+1) c8))/\meQ (w8'.setCell ⟨bo,4,none⟩ (.slice (some ⟨g8,0,none⟩) (zs.length+1) c8)) w1.heap.size < meQ wr w1.heap.size:=by
     have hmr:=HQL.out.me;simp only [List.length_cons] at hmr;rcases HO.out with ⟨y,r5,hT,hR,hP,hG,hr⟩ | ⟨ba,er,t5,r5,he,hR,hP⟩
     ·have hTe:Ak (fun b=>wr.heap.size<=b) we y (bG k' a' s' m' A2 la' bu B' lb' bA):=(tup hT (show wr.heap.size<=wa.heap.size from V0)).upd (Upd.of_below HBE.out fun _=>False) (fun _ _ h=>h);have hst:=av_step HOW.out HTS.out V0 V0 HURE.out hTe HE8.out;have hq9:=((hP.below HBE.out).far bU fun b hb=>by have:=HGG.out _ hb;omega).far hu9 fun b hb=>V0
      simp only [List.length_cons] at hr;refine ⟨.inl ⟨r5,zs ++ [y],V3,hq9,hG,V4,?_,fun o h=>HRD.out o (q6g HK.out hR h)⟩,?_⟩
      ·rw [List.length_append];exact hst.upd hu9 fun b hb=>V0
      ·have:=hq9.me;omega
     ·have hq9:=((hP.below HBE.out).far bU fun b hb=>by have:=HGG.out _ hb;omega).far hu9 fun b hb=>by omega
      refine ⟨.inr ⟨ba,er,t5,r5,he,HRD.out _ (q2R HK.out hR),hq9⟩,?_⟩;have:=hq9.me0 he;omega
    have HX9:=Hi hX9;have HB9:=Hi hB9;have HJ9:=Hi hJ9;clear bU hu9 hX9 hB9 hJ9
    go_roundw
    case rel=>exact ⟨some ⟨g8,0,none⟩,zs.length+1,c8,Hi HJ9.out.1,HBO9,HX9,HB9⟩
    case measure=>exact HJ9.out.2
  ·obtain ⟨b',o',c2,n'',hnn,hln,hcc,hmm,⟨c0,c1,c2',c3⟩,⟨z0,z1,z2,z3⟩,f4,f5,f6⟩:=hP9.head;have hbpl2:=hP9.lt;have hwy:((er:Int)==0)=false:=V4;have HD:=Hi (q7e wr w1.heap.size ba er v r' hP9 he 13 t0.at_ 0 n c' 0 0 [] A' none);have Az:=Hi (HRB.out ba er hR9);obtain ⟨⟨e0,e1,e2,e3,e4,e5⟩,y0,y1,y2,y3,y4,y5⟩:=Aa.c6 HBOr.out;clear HJ hP9 hR9 he hnn hln hcc hmm c0 c1 c2' z0 z1 z2 z3 f4 f5 f6;go_wp2_with fail
   clear c3 hwy;refine (show Calls Tryz.prog 27 #[.pointer (some ⟨w1.heap.size,0,none⟩),.agg #[.int .i64 13,.string ⟨#[]⟩,.int .u32 0,.int .i64 (t0.at_:Int),.slice A' n c',.slice none 0 0]] wr _ from HD.out).mono ?_;rintro e wd ⟨rfl,hbd⟩;have hX:=HXr.out.below hbd HXr.out.lt;have hxl:=hX.lt;clear e0 e1 e2 e3 e4 e5 y0 y1 y2 y3 y4 y5;obtain ⟨⟨e0,e1,e2,e3,e4,e5⟩,z0,z1,z2,z3,z4,z5⟩:=Aa.c6 hX;have hu:Upd (fun b=>b=w.heap.size) wd _:=q09 (X:=fun b=>b=w.heap.size) (Upd.refl _ wd) (fun _=>rfl) (.int .i64 0) (.string ⟨#[]⟩) (.int .u32 0) (.int .i64 0) (.slice none 0 0) (.slice none 0 0);have Ac:=Hi (q7f (w:=w) (w':=az wd w.heap.size (.int .i64 0) (.string ⟨#[]⟩) (.int .u32 0) (.int .i64 0) (.slice none 0 0) (.slice none 0 0)) Az.out (((Upd.of_below (HBr.out.trans (hbd.mono HBr.out.size)) (fun b=>b=w.heap.size)).trans hu).below (Nat.le_refl _) fun k hk=>V0));have HN:=Hi (Aa.az hX (.int .i64 0) (.string ⟨#[]⟩) (.int .u32 0) (.int .i64 0) (.slice none 0 0) (.slice none 0 0));clear hX hu hbd;go_wp2_with fail
   exact bodyPost_ret (v:=zV ba er) (q1P rfl _ _ rfl HN.out rfl rfl rfl) rfl Ac.out
end Go.Proofs.YtcgibpdjfgjldaaGreatDoor.Pq
