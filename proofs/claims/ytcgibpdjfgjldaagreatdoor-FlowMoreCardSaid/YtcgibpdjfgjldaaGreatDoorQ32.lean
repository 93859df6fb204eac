/- DERIVED. RqDp, RqPr, NmBd. By an AI agent. -/
import Derived.Test.YtcgibpdjfgjldaaGreatDoorQ01
import Derived.Test.YtcgibpdjfgjldaaGreatDoorQ07
import Derived.Test.YtcgibpdjfgjldaaGreatDoorQ30
import Derived.Test.YtcgibpdjfgjldaaGreatDoorQ31
import Derived.Test.YtcgibpdjfgjldaaGreatDoorQ04
import Derived.Test.YtcgibpdjfgjldaaGreatDoorQ10
set_option maxRecDepth 100000
set_option maxHeartbeats 4000000
set_option linter.unusedVariables false
set_option linter.unusedSimpArgs false
namespace Go.Proofs.YtcgibpdjfgjldaaGreatDoor.Pq
open Go Go.ChangeShapes Go.WideShapes Go.ChangeAt Go.RowKit Lx Args Pa
section
attribute [local go_sem] fTk0 fTk1 fTk2
theorem qs_box{w:World}{bp ba wy:Nat}{l:List Tk}(h:QS w bp l ba wy):∃ v0 v1,Blk w bp 60 #[v0,v1,.int .i64 (ba:Int),.int .i64 (wy:Int)]:=by
 obtain ⟨b,o,c,pre,_,h1,_⟩:=h;exact ⟨_,_,h1⟩
abbrev zV(a er:Nat):Value:=.tuple #[.agg zNd,.int .i64 (a:Int),.int .i64 (er:Int)]
theorem done_dead(w:World)(bp ba wy:Nat)(t:Tk)(r:List Tk)(hp:QS w bp (t :: r) ba wy)(hw:wy≠0)(k a n la cA lb cB:Nat)(s:Bs)(A B:Option Addr) :
  Calls Tryz.prog 27 #[.pointer (some ⟨bp,0,none⟩),.agg #[.int .i64 (k:Int),.string ⟨s.toArray⟩,.int .u32 (n:Int),.int .i64 (a:Int),.slice A la cA,.slice B lb cB]] w fun e w'=>
   e = .returned (zV ba wy)∧Below w.heap.size w w':=by
 obtain ⟨w0,hw0,hb0,hX,hY⟩:=two_box w #[.int .i64 (k:Int),.string ⟨s.toArray⟩,.int .u32 (n:Int),.int .i64 (a:Int),.slice A la cA,.slice B lb cB];have HTK:=Hi (tok w0 bp ba wy t r (hp.below hb0));have hlt:=hp.lt;have HP0:=Hi (hp.below hb0);have HB0:=Hi hb0;have HY:=Hi hY;have HW:=Hi hw0;have hq:((wy:Int) != 0)=true:=by simp;omega
 have hq2:((wy:Int)==0)=false:=by simp;omega
 have HWY:=Hi hw;clear hp hb0 hX hY hw0 hw;go_enter Tryz.func27,Tryz.ntmps27;go_wp2_with fail
 rw [HW.out];refine HTK.out.mono ?_;rintro e w1 ⟨rfl,hb1⟩;have HP1:=Hi (HP0.out.below hb1);have HBD:=Hi fun b=>bad_no w1 bp ba wy 100 b t r HP1.out (.inr HWY.out)
 have HB1:=Hi (HB0.out.trans (hb1.mono HB0.out.size));have HY1:=Hi (HY.out.below hb1 HY.out.lt);have HPZ:=HP1;obtain ⟨b',o,c,n',hn,hl,hc,hm,⟨c0,c1,c2,c3⟩,⟨u0,u1,u2,u3⟩,f4,f5,f6⟩:=HP1.out.head;have hbl:=HP1.out.lt;clear hb1 hn hl hc hm f4 f5 f6;go_wp2_with fail
 refine (HBD.out _).mono ?_;rintro e w' ⟨rfl,rfl⟩;obtain ⟨⟨g0,g1,g2,g3,g4,g5⟩,y0,y1,y2,y3,y4,y5⟩:=Blk.c6 HY1.out;have hyl:=HY1.out.lt;go_wp2_with fail
 have hdr:Below w1.heap.size w1 w1.drew:=below_drewN (Below.refl _ _) 1;have HY2:=Hi (HY1.out.below hdr hyl);have HB2:=Hi (HB1.out.trans (hdr.mono HB1.out.size));clear hdr;have hne:bp≠w.heap.size+1:=by omega
 obtain ⟨v0,v1,hZB⟩:=qs_box HPZ.out;have hZ0:Blk w1.drew bp 60 #[v0,v1,.int .i64 (ba:Int),.int .i64 (wy:Int)]:=hZB;have HZB:=Hi hZB;clear hZB;refine HT.wp_region (Z:=fun w'=>Blk w' bp 60 #[v0,v1,.int .i64 (ba:Int),.int .i64 (wy:Int)]) (S:=fun _=>True) (st:=[]) (by kernel_rfl) ?_;refine HT.takeP (i:=0) (v:=?_) rfl (by kernel_rfl) (by kernel_rfl) (by kernel_rfl) (by kernel_rfl) (fun _ _ _ h=>h) (Or.inl ⟨by rfl,?_⟩) hZ0 (fun _=>trivial) ?_;rotate_left
 ·(intro w hSw;have q2:=Blk.cell hSw 2;have q3:=Blk.cell hSw 3;clear hSw;go_simp;try with_reducible rfl)
 (try simp only [HT.pS]);refine HT.takeP (i:=1) (v:=?_) rfl (by kernel_rfl) (by kernel_rfl) (by kernel_rfl) (by kernel_rfl) (fun _ _ _ h=>h) (Or.inl ⟨by rfl,?_⟩) hZ0 (fun _=>trivial) ?_;rotate_left
 ·(intro w hSw;have q2:=Blk.cell hSw 2;have q3:=Blk.cell hSw 3;clear hSw;go_simp;try with_reducible rfl)
 (try simp only [HT.pS]);refine HT.takeP (i:=2) (v:=?_) rfl (by kernel_rfl) (by kernel_rfl) (by kernel_rfl) (by kernel_rfl) (fun _ _ _ h=>h) (Or.inl ⟨by rfl,?_⟩) hZ0 (fun _=>trivial) ?_;rotate_left
 ·(intro w hSw;have q2:=Blk.cell hSw 2;have q3:=Blk.cell hSw 3;clear hSw;go_simp;try with_reducible rfl)
 (try simp only [HT.pS]);refine HT.takeP (i:=3) (v:=?_) rfl (by kernel_rfl) (by kernel_rfl) (by kernel_rfl) (by kernel_rfl) (fun _ _ _ h=>h) (Or.inl ⟨by rfl,?_⟩) hZ0 (fun _=>trivial) ?_;rotate_left
 ·(intro w hSw;have q2:=Blk.cell hSw 2;have q3:=Blk.cell hSw 3;clear hSw;go_simp;try with_reducible rfl)
 (try simp only [HT.pS]);refine HT.takeP (i:=4) (v:=?_) rfl (by kernel_rfl) (by kernel_rfl) (by kernel_rfl) (by kernel_rfl) (fun _ _ _ h=>h) (Or.inl ⟨by rfl,?_⟩) hZ0 (fun _=>trivial) ?_;rotate_left
 ·(intro w hSw;have q2:=Blk.cell hSw 2;have q3:=Blk.cell hSw 3;clear hSw;go_simp;try with_reducible rfl)
 (try simp only [HT.pS]);refine HT.takeP (i:=5) (v:=?_) rfl (by kernel_rfl) (by kernel_rfl) (by kernel_rfl) (by kernel_rfl) (fun _ _ _ h=>h) (Or.inl ⟨by rfl,?_⟩) hZ0 (fun _=>trivial) ?_;rotate_left
 ·(intro w hSw;have q2:=Blk.cell hSw 2;have q3:=Blk.cell hSw 3;clear hSw;go_simp;try with_reducible rfl)
 (try simp only [HT.pS]);refine HT.takeP (i:=6) (v:=?_) rfl (by kernel_rfl) (by kernel_rfl) (by kernel_rfl) (by kernel_rfl) (fun _ _ _ h=>h) (Or.inl ⟨by rfl,?_⟩) hZ0 (fun _=>trivial) ?_;rotate_left
 ·(intro w hSw;have q2:=Blk.cell hSw 2;have q3:=Blk.cell hSw 3;clear hSw;go_simp;try with_reducible rfl)
 (try simp only [HT.pS]);refine HT.takeP (i:=7) (v:=?_) rfl (by kernel_rfl) (by kernel_rfl) (by kernel_rfl) (by kernel_rfl) (fun _ _ _ h=>h) (Or.inl ⟨by rfl,?_⟩) hZ0 (fun _=>trivial) ?_;rotate_left
 ·(intro w hSw;have q2:=Blk.cell hSw 2;have q3:=Blk.cell hSw 3;clear hSw;go_simp;try with_reducible rfl)
 (try simp only [HT.pS]);refine HT.takeP (i:=8) (v:=?_) rfl (by kernel_rfl) (by kernel_rfl) (by kernel_rfl) (by kernel_rfl) (fun _ _ _ h=>h) (Or.inl ⟨by rfl,?_⟩) hZ0 (fun _=>trivial) ?_;rotate_left
 ·(intro w hSw;have q2:=Blk.cell hSw 2;have q3:=Blk.cell hSw 3;clear hSw;go_simp;try with_reducible rfl)
 (try simp only [HT.pS]);refine HT.one (i:=9) (by kernel_rfl) rfl (fun K hK=>?_);go_simp;refine hK.out _ _ (by repeat (first | with_reducible exact HZB.out | with_reducible apply Blk.drew | with_reducible refine Blk.far ?_ hne _)) trivial ?_;clear hK K;(try simp only [HT.pS]);refine HT.one (i:=10) (by kernel_rfl) rfl (fun K hK=>?_);go_simp;refine hK.out _ _ (by repeat (first | with_reducible exact HZB.out | with_reducible apply Blk.drew | with_reducible refine Blk.far ?_ hne _)) trivial ?_;clear hK K;(try simp only [HT.pS]);refine HT.one (i:=11) (by kernel_rfl) rfl (fun K hK=>?_);go_simp;refine hK.out _ _ (by repeat (first | with_reducible exact HZB.out | with_reducible apply Blk.drew | with_reducible refine Blk.far ?_ hne _)) trivial ?_;clear hK K;(try simp only [HT.pS]);refine HT.done (by kernel_rfl) ?_;dsimp only [Exit.then];go_wp2_with fail
 exact bodyPost_ret (v:=zV ba wy) (res_ctt rfl _ _ rfl (Blk.drew (Blk.put6 HY1.out _ _ _ _ _ _)) rfl rfl rfl) rfl ⟨rfl,((((((HB1.out.setCell (Nat.le_succ _) _).setCell (Nat.le_succ _) _).setCell (Nat.le_succ _) _).setCell (Nat.le_succ _) _).setCell (Nat.le_succ _) _).setCell (Nat.le_succ _) _).drew⟩
theorem rdp_bad{R:List Tk→Out→Prop}{s:ByteArray}{w w':World}{a er:Nat}(h:BadR R (wordsL s.data.toList) a er)(hb:Below w.heap.size w w'):RdP R s w (.returned (zV a er)) w':=.inr ⟨a,er,rfl,h,hb⟩
theorem qs_new{w:World}{A:Option Addr}{c:Nat}{l:List Tk}(hg:Gt l)(hL:Lies w A (l.flatMap tkC)):QS (w.alloc (.cells #[.slice A l.length c,.int .i64 0,.int .i64 0,.int .i64 0] 60)) w.heap.size l 0 0:=by
 obtain ⟨t,r,rfl⟩:=hg.cons;obtain ⟨b,o,rfl,hb,_⟩:=hL.at_ (j:=0) (u:=.int .i64 (t.k:Int)) rfl;exact ⟨b,o,c,[],hb,by simpa using Blk.new w 60 #[.slice (some ⟨b,o,none⟩) (t :: r).length c,.int .i64 0,.int .i64 0,.int .i64 0],hL.below ((Below.refl _ _).alloc (Nat.le_refl _) _),by simpa using hg.few⟩
end
end Go.Proofs.YtcgibpdjfgjldaaGreatDoor.Pq
namespace Go.Proofs.YtcgibpdjfgjldaaGreatDoor.Pa
open Go Go.RowKit Lx Args
theorem own_updV{X:Nat→Prop}{w w':World}{base:Nat}{e:TypeId}{size n:Nat}{v:Value}{xs:List Value}(h:w.ownsRow base e size v n xs)(hu:Upd X w w')(hX:∀ g,v.ownBlock=some g→¬ X g):w'.ownsRow base e size v n xs:=by
 obtain ⟨h1,h2⟩:=h;refine ⟨h1,?_⟩;rcases h2 with h2 | ⟨g,cap,cur,e1,h3,h4,h5⟩
 ·exact .inl h2
 ·have hg:g < w.heap.size:=(Array.getElem?_eq_some_iff.1 h4).1;exact .inr ⟨g,cap,cur,e1,h3,(hu.block _ hg (hX g (by rw [e1];rfl))).trans h4,h5⟩
theorem own_atV{w:World}{lo:Nat}{e:TypeId}{size n:Nat}{v:Value}{xs:List Value}(h:w.ownsRow lo e size v n xs):∀ g,v.ownBlock=some g→lo≤g∧g < w.heap.size:=fun g hg=>by
 rcases h.2 with ⟨h,_⟩ | ⟨g',cap,cur,h,hb,hh,_⟩
 ·rw [h] at hg;cases hg
 ·rw [h] at hg;cases hg;exact ⟨hb,(Array.getElem?_eq_some_iff.1 hh).1⟩
def ArrV(e:TypeId)(lo:Nat)(w:World)(v:Value)(xs:List Tr):Prop:=∃ css,w.ownsRow lo e 6 v xs.length css.flatten∧TsIn (fun b=>lo≤b∧v.ownBlock≠some b) w xs css
theorem ArrV.nil(e:TypeId)(lo:Nat)(w:World):ArrV e lo w (.slice none 0 0) []:=⟨[],World.ownsRow_nil _ _ _ _,by unfold TsIn;rfl⟩
theorem ArrV.upd{X:Nat→Prop}{e:TypeId}{lo:Nat}{w w':World}{v:Value}{xs:List Tr}(h:ArrV e lo w v xs)(hu:Upd X w w')(hX:∀ b,X b→b < lo):ArrV e lo w' v xs:=by
 obtain ⟨css,h1,h2⟩:=h;exact ⟨css,own_updV h1 hu fun g hg hx=>by have:=own_atV h1 g hg;have:=hX g hx;omega,h2.upd hu fun b hb hx=>by have:=hX b hx;omega⟩
theorem av_step{e:TypeId}{lo bp:Nat}{wr w1 w8:World}{v:Value}{g8 c8:Nat}{xs:List Tr}{css:List (List Value)}{x:Tr}{cs:List Value}(how:wr.ownsRow lo e 6 v xs.length css.flatten)(hts:TsIn (fun b=>lo≤b∧v.ownBlock≠some b) wr xs css)(hlo:lo≤wr.heap.size)(hlt:bp < lo)
  (hU:Upd (fun b=>b=bp) wr w1) (hT:TIn (fun b=>wr.heap.size≤b) w1 x cs) (hE:AppE lo e 6 (w1.alloc (.cells cs.toArray e)) v xs.length 1 (css.flatten ++ cs) g8 c8 w8) :
  ArrV e lo w8 (.slice (some ⟨g8,0,none⟩) (xs.length+1) c8) (xs ++ [x]):=by
 have ha:Upd (fun _=>False) w1 (w1.alloc (.cells cs.toArray e)):=(Upd.refl _ w1).alloc _;have hg:Upd (fun b=>v.ownBlock=some b) (w1.alloc (.cells cs.toArray e)) w8:=(Upd.refl (fun b=>v.ownBlock=some b) _).grown hE.grown fun k hk _=>hk
 have hsz:=hU.size;have hne:∀ b,v.ownBlock≠some b→b < (w1.alloc (.cells cs.toArray e)).heap.size→b≠g8:=fun b hb hs h=>by
  rcases hE.at_ with h5 | h5
  ·rw [h] at hb;exact hb h5.symm
  ·omega
 have a1:TsIn (fun b=>lo≤b∧v.ownBlock≠some b∧b≠g8) (w1.alloc (.cells cs.toArray e)) xs css:=((hts.upd hU fun b hb e=>by omega).upd ha fun _ _ h=>h).mono fun b hb hs=>⟨hb.1,hb.2,hne b hb.2 hs⟩
 have a2:TsIn (fun b=>lo≤b∧v.ownBlock≠some b∧b≠g8) (w1.alloc (.cells cs.toArray e)) [x] [cs]:=tsIn_one ((hT.upd ha fun _ _ h=>h).mono fun b hb hs=>by
  have h1:v.ownBlock≠some b:=fun h=>by have:=own_atV how b h;omega
  exact ⟨by omega,h1,hne b h1 hs⟩)
 refine ⟨css ++ [cs],?_,((tsIn_app a1 a2).upd hg fun b hb h=>hb.2.1 h).mono fun b hb _=>⟨hb.1,fun h=>hb.2.2 (by cases h;rfl)⟩⟩;rw [List.length_append,List.flatten_append];simpa using hE.own
theorem ArrV.node{e:TypeId}{lo:Nat}{w:World}{A:Option Addr}{c:Nat}{xs:List Tr}(h:ArrV e lo w (.slice A xs.length c) xs)(hl:xs.length≤100000)(k a n:Nat)(s:Bs):TIn (fun b=>lo≤b) w (.mk k a s n [] xs) (ndC k a s n A xs.length c none 0 0):=by
 obtain ⟨css,h1,h2⟩:=h;unfold TIn;refine ⟨_,_,none,0,rfl,own_cap h1 hl,⟨by simp,by simp,by decide⟩,Lies.nil _ _,fun b o e=>(by cases e),css,?_,fun b o e hne=>?_,h2.mono fun b hb _=>hb.1⟩
 ·rcases h1.2 with ⟨h,h0⟩ | ⟨g',cap,cur,h,_⟩
  ·have:xs=[]:=List.eq_nil_of_length_eq_zero h0;subst this;unfold TsIn at h2;subst h2;exact Lies.nil _ _
  ·cases h;exact fun j u hj=>⟨_,rfl,h1.cells (g:=g') rfl j u hj⟩
 ·subst e;rcases h1.2 with ⟨h,h0⟩ | ⟨g',cap,cur,h,hb,_⟩
  ·cases h
  ·cases h;exact hb
end Go.Proofs.YtcgibpdjfgjldaaGreatDoor.Pa
namespace Go.Proofs.YtcgibpdjfgjldaaGreatDoor.Pq
open Go Go.ChangeShapes Go.WideShapes Go.ChangeAt Go.RowKit Lx Args Pa
attribute [local go_sem] fTk0 fTk1 fTk2
theorem bo_after{e:TypeId}{lo bo n m g8 c8:Nat}{we w8:World}{o:Obj}{v:Value}{xs:List Value}{t:TypeId}{cs:Array Value}(hE:AppE lo e 6 (we.alloc o) v n m xs g8 c8 w8)(hB:Blk we bo t cs)(hg:∀ g,v.ownBlock=some g→bo < g):Blk w8 bo t cs:=
 hB.upd ((((Upd.refl (fun b=>v.ownBlock=some b) we).alloc _).grown hE.grown fun k hk _=>hk)) fun h=>by have:=hg _ h;omega
def PrI(bp bo:Nat)(l:List Tk)(A:Option Addr)(n c:Nat)(W:World):Prop:=
 (∃ l' zs,n=zs.length∧QS W bp l' 0 0∧Gt l'∧zs.length+l'.length≤4000∧ArrV 26 (bo+1) W (.slice A zs.length c) zs∧∀ o,Rd numV (.stmts zs) 0 l' o→Rd numV (.stmts []) 0 l o) ∨
 (∃ ba er t r,er≠0∧Rd numV (.stmts []) 0 l (.bad ba er)∧QS W bp (t :: r) ba er)
theorem r_program(s:ByteArray)(w:World):Calls Tryz.prog 9 #[.string s] w (RdP ProgR s w):=by
 obtain ⟨i0,hi,hz⟩:=Option.map_eq_some_iff.1 infoNd;have hz0:=congrArg (·.1) hz;have hz1:=congrArg (·.2.1) hz;have hz2:=congrArg (·.2.2) hz;have HI:=Hi hi;have HZ0:=Hi hz0;have HZ1:=Hi hz1;have HZ2:=Hi hz2;clear hi hz hz0 hz1 hz2;obtain ⟨w0,hw0,hb0,hB⟩:=zero_box w;have HWD:=Hi (words s w0);have HB0:=Hi hb0;have HB:=Hi hB;have HW:=Hi hw0;have hlb:=hB.lt;clear hb0 hw0 hB;go_enter Tryz.func9,Tryz.ntmps9;go_wp2_with fail
 rw [HW.out];refine HWD.out.mono ?_;rintro e w1 ⟨A,c,rfl,hL,hb1⟩;by_cases her:(wordsL s.data.toList).er = 0;rotate_left
 ·have hq:(((wordsL s.data.toList).er:Int) != 0)=true:=by simp;omega
  have hbad:BadR ProgR (wordsL s.data.toList) (wordsL s.data.toList).at_ (wordsL s.data.toList).er:=.inl ⟨her,rfl,rfl⟩;generalize (wordsL s.data.toList).l.length=n at *;have hX:=HB.out.below hb1 HB.out.lt;obtain ⟨⟨e0,e1,e2,e3,e4,e5⟩,z0,z1,z2,z3,z4,z5⟩:=Blk.c6 hX;have hxl:=hX.lt;have HEND:=Hi (rdp_bad hbad (((((((HB0.out.trans (hb1.mono HB0.out.size)).setCell (p:=⟨w.heap.size,0,none⟩) (Nat.le_refl _) (.int .i64 0)).setCell (p:=⟨w.heap.size,1,none⟩) (Nat.le_refl _) (.string ⟨#[]⟩)).setCell (p:=⟨w.heap.size,2,none⟩) (Nat.le_refl _) (.int .u32 0)).setCell (p:=⟨w.heap.size,3,none⟩) (Nat.le_refl _) (.int .i64 0)).setCell (p:=⟨w.heap.size,4,none⟩) (Nat.le_refl _) (.slice none 0 0)).setCell (p:=⟨w.heap.size,5,none⟩) (Nat.le_refl _) (.slice none 0 0)));generalize (wordsL s.data.toList).er=er at *;generalize (wordsL s.data.toList).at_=at_ at *;have HX:=Hi hX;clear hL hb1 hbad her hX;go_wp2_with fail
  exact bodyPost_ret (v:=zV at_ er) (res_ctt rfl _ _ rfl (Blk.put6 HX.out _ _ _ _ _ _) rfl rfl rfl) rfl HEND.out
 rw [her];have hg:=words_gt her;obtain ⟨l,hl⟩:∃ l,(wordsL s.data.toList).l=l:=⟨_,rfl⟩;have hrdp:∀ a er,Rd numV (.stmts []) 0 l (.bad a er)→BadR ProgR (wordsL s.data.toList) a er:=fun a er h=>.inr ⟨her,.inl (by rw [hl];exact h)⟩
 rw [hl] at hg hL ⊢;generalize (wordsL s.data.toList).at_=at_;obtain ⟨w2,hw2⟩:∃ w2,w1.alloc (.cells #[.slice A l.length c,.int .i64 0,.int .i64 0,.int .i64 0] 60)=w2:=⟨_,rfl⟩;have hb2:Below w1.heap.size w1 w2:=by rw [←hw2];exact (Below.refl _ _).alloc (Nat.le_refl _) _
 have hq2:QS w2 w1.heap.size l 0 0:=by rw [←hw2];exact qs_new hg hL
 obtain ⟨ln,hln⟩:∃ ln,l.length=ln:=⟨_,rfl⟩;rw [hln] at hw2 ⊢;clear hln;obtain ⟨t0,r0,rfl⟩:=hg.cons;have h01:=hb1.size;have h12:=hb2.size;have hbpl:=hq2.lt;have HX2:=Hi ((HB.out.below hb1 HB.out.lt).below hb2 (by omega));have HB2:=Hi ((HB0.out.trans (hb1.mono HB0.out.size)).trans (hb2.mono (HB0.out.trans (hb1.mono HB0.out.size)).size));have HT:=Hi (tok w2 w1.heap.size 0 0 t0 r0 hq2);have HQ2:=Hi hq2;have HG:=Hi hg;have HW2:=Hi hw2;have HRB:=Hi hrdp;have HL:=Hi hl;have HER:=Hi her;clear hb1 hb2 hq2 hw2 hL hrdp hl her hg;go_wp2_with fail
 rw [HW2.out];refine HT.out.mono ?_;rintro e w3 ⟨rfl,hb3⟩;have h23:=hb3.size;have HQ3:=Hi (HQ2.out.below hb3);have HX3:=Hi (HX2.out.below hb3 HX2.out.lt);have HB3:=Hi (HB2.out.trans (hb3.mono HB2.out.size));clear hb3 HT HQ2 HX2 HB2 HW2;go_wp2_with fail
 refine (show Calls Tryz.prog 24 #[.int .i64 13,.int .i64 (t0.at_:Int),.string ⟨#[]⟩,.slice none 0 0] w3 _ from node w3 13 t0.at_ [] none 0 0).mono ?_;rintro e w4 ⟨rfl,hb4⟩;have h34:=hb4.size;obtain ⟨bo,hbo⟩:∃ bo,w4.heap.size=bo:=⟨_,rfl⟩;obtain ⟨w5,hw5⟩:∃ w5,w4.alloc (.cells #[.int .i64 13,.string ⟨#[]⟩,.int .u32 0,.int .i64 (t0.at_:Int),.slice none 0 0,.slice none 0 0] 26)=w5:=⟨_,rfl⟩;have hb5:Below w4.heap.size w4 w5:=by rw [←hw5];exact (Below.refl _ _).alloc (Nat.le_refl _) _
 have hbx5:Blk w5 bo 26 #[.int .i64 13,.string ⟨#[]⟩,.int .u32 0,.int .i64 (t0.at_:Int),.slice none 0 0,.slice none 0 0]:=by rw [←hw5,←hbo];exact Blk.new _ _ _
 have hb35:Below w3.heap.size w3 w5:=hb4.trans (hb5.mono hb4.size);have HX5:=Hi (HX3.out.below hb35 HX3.out.lt);have HB5:=Hi (HB3.out.trans (hb35.mono HB3.out.size));have HW5:=Hi hw5;have HBO5:=Hi hbx5;have HJ:Hid (PrI w1.heap.size bo (t0 :: r0) none 0 0 w5):=Hi (.inl ⟨t0 :: r0,[],rfl,HQ3.out.below hb35,HG.out,by simpa using HG.out.few,ArrV.nil _ _ _,fun o h=>h⟩);have hlbo:w1.heap.size < bo:=by omega
 clear hb4 hb5 hb35 hw5 hbx5 HQ3 HX3 HB3;go_wp2_with fail
 rw [HW5.out]
 go_loopw [] (fun wr=>∃ A n c,Hid (PrI w1.heap.size bo (t0 :: r0) A n c wr)∧Hid (Blk wr bo 26 #[.int .i64 13,.string ⟨#[]⟩,.int .u32 0,.int .i64 (t0.at_:Int),.slice A n c,.slice none 0 0])∧Hid (Blk wr w.heap.size 26 zNd)∧Hid (Below w.heap.size w wr)) (fun wr=>meQ wr w1.heap.size)
 case atStart=>exact ⟨none,0,0,HJ,HBO5,HX5,HB5⟩
 case round=>
  clear HJ HBO5 HX5 HB5 HW5;obtain ⟨A',n,c',HJ,HBOr,HXr,HBr⟩:=hrel;have hbol:=HBOr.out.lt;have hbrs:=HBr.out.size;rcases HJ.out with ⟨l',zs,rfl,hql,hgl,hfl,hAr,hrd⟩ | ⟨ba,er,v,r',he,hR9,hP9⟩
  ·obtain ⟨v,r',rfl⟩:=hgl.cons;obtain ⟨b',o',c2,n',hnn,hln,hcc,hmm,⟨c0,c1,c2',c3⟩,⟨z0,z1,z2,z3⟩,f4,f5,f6⟩:=hql.head;have hbpl2:=hql.lt;have HQL:=Hi hql;have HGL:=Hi hgl;have HAR:=Hi hAr;have HRD:=Hi hrd;have HTK:=Hi (tok wr w1.heap.size 0 0 v r' hql);simp only [List.length_cons] at hfl;clear hql hgl hAr hrd HJ hnn hln hcc hmm c0 c1 c2' z0 z1 z2 z3 f4 f5 f6;by_cases hk:v.k = 0
   ·have hq:((v.k:Int) != 0)=false:=by simp;omega
    have HK:=Hi hk;clear hk;go_wp2_with fail
    refine HTK.out.mono ?_;rintro e wa ⟨rfl,hba⟩;have hbo6:=HBOr.out.below hba hbol;obtain ⟨⟨e0,e1,e2,e3,e4,e5⟩,z0,z1,z2,z3,z4,z5⟩:=Blk.c6 hbo6;have hbo6l:=hbo6.lt;have HD:=Hi (done_ok wa w1.heap.size v r' (HQL.out.below hba) HK.out 13 t0.at_ 0 zs.length c' 0 0 [] A' none);have HTa:=Hi ((HAR.out.upd (Upd.of_below hba fun _=>False) fun _ h=>h.elim).node (by omega) 13 t0.at_ 0 []);have HXa:=Hi (HXr.out.below hba HXr.out.lt);have HBa:=Hi (HBr.out.trans (hba.mono HBr.out.size));clear hba hbo6 HTK c3;go_wp2_with fail
    refine (show Calls Tryz.prog 27 #[.pointer (some ⟨w1.heap.size,0,none⟩),.agg #[.int .i64 13,.string ⟨#[]⟩,.int .u32 0,.int .i64 (t0.at_:Int),.slice A' zs.length c',.slice none 0 0]] wa _ from HD.out).mono ?_;rintro e wd ⟨rfl,hbd⟩;have hX:=HXa.out.below hbd HXa.out.lt;have hxl:=hX.lt;clear e0 e1 e2 e3 e4 e5 z0 z1 z2 z3 z4 z5;obtain ⟨⟨e0,e1,e2,e3,e4,e5⟩,z0,z1,z2,z3,z4,z5⟩:=Blk.c6 hX;have hu:Upd (fun b=>b=w.heap.size) wd _:=put6_upd (X:=fun b=>b=w.heap.size) (Upd.refl _ wd) (fun _=>rfl) (.int .i64 13) (.string ⟨#[]⟩) (.int .u32 0) (.int .i64 (t0.at_:Int)) (.slice A' zs.length c') (.slice none 0 0);have HEND:=Hi (show RdP ProgR s w (.returned (.tuple #[.agg #[.int .i64 13,.string ⟨#[]⟩,.int .u32 0,.int .i64 (t0.at_:Int),.slice A' zs.length c',.slice none 0 0],.int .i64 0,.int .i64 0])) _ from
     .inl ⟨13,t0.at_,[],0,A',zs.length,c',none,0,0,.mk 13 t0.at_ [] 0 [] zs,v,r',rfl,HER.out,by rw [HL.out];exact ⟨zs,rfl,HRD.out _ (r_stmts_end HK.out),v,r',rfl,HK.out⟩,HK.out,tup (tfar (HTa.out.upd (Upd.of_below hbd fun _=>False) fun _ _ h=>h) hu fun b hb=>by omega) (by omega),((Upd.of_below (HBa.out.trans (hbd.mono HBa.out.size)) (fun b=>b=w.heap.size)).trans hu).below (Nat.le_refl _) fun k hk=>by omega⟩)
    have HN:=Hi (Blk.put6 hX (.int .i64 13) (.string ⟨#[]⟩) (.int .u32 0) (.int .i64 (t0.at_:Int)) (.slice A' zs.length c') (.slice none 0 0));clear hX hu hbd;go_wp2_with fail
    exact bodyPost_ret (v:=.tuple #[.agg #[.int .i64 13,.string ⟨#[]⟩,.int .u32 0,.int .i64 (t0.at_:Int),.slice A' zs.length c',.slice none 0 0],.int .i64 0,.int .i64 0]) (res_ctt rfl _ _ rfl HN.out rfl rfl rfl) rfl HEND.out
   ·have hq:((v.k:Int) != 0)=true:=by simp;omega
    have HK:=Hi hk;clear hk;go_wp2_with fail
    refine HTK.out.mono ?_;rintro e wa ⟨rfl,hba⟩;have hra:=hba.size;have HS1:=Hi (stq wa w1.heap.size (v :: r') (HQL.out.below hba) HGL.out);have HBA:=Hi hba;clear hba HTK c3;go_wp2_with fail
    refine HS1.out.mono ?_;rintro e wd ⟨k',a',s',m',A2,la',cA',B',lb',cB',rfl,hU,hO⟩;obtain ⟨we,hwe⟩:∃ we,wd.alloc (.cells #[.int .i64 (k':Int),.string ⟨s'.toArray⟩,.int .u32 (m':Int),.int .i64 (a':Int),.slice A2 la' cA',.slice B' lb' cB'] 26)=we:=⟨_,rfl⟩;have hbe:Below wd.heap.size wd we:=by rw [←hwe];exact (Below.refl _ _).alloc (Nat.le_refl _) _
    have hse:we.heap.size=wd.heap.size+1:=by rw [←hwe];simp
    have hsd:=hU.size;have hure:UB w1.heap.size wr we:=((below_UB HBA.out).trans hU).trans (below_UB hbe);obtain ⟨css,how,hts⟩:=HAR.out;have hgg:=own_atV how;have how':=own_updV how hure fun g hg hx=>by have:=hgg g hg;omega
    have HOA:=Hi (World.ownsRow.alloc how' (.cells #[.int .i64 (k':Int),.string ⟨s'.toArray⟩,.int .u32 (m':Int),.int .i64 (a':Int),.slice A2 la' cA',.slice B' lb' cB'] 26));have HLI:=Hi (lies_full we 26 (ndC k' a' s' m' A2 la' cA' B' lb' cB'));have HBS:=Hi (show bo+1≤(we.alloc (.cells #[.int .i64 (k':Int),.string ⟨s'.toArray⟩,.int .u32 (m':Int),.int .i64 (a':Int),.slice A2 la' cA',.slice B' lb' cB'] 26)).heap.size by simp;omega);have hboe:=HBOr.out.upd hure (show ¬ bo=w1.heap.size by omega);have hbod:=HBOr.out.upd ((below_UB HBA.out).trans hU) (show ¬ bo=w1.heap.size by omega);obtain ⟨⟨e0,e1,e2,e3,e4,e5⟩,y0,y1,y2,y3,y4,y5⟩:=Blk.c6 hbod;have hboel:=hbod.lt;clear hbod;have HOW:=Hi how;have HTS:=Hi hts;have HURE:=Hi hure;have HO:=Hi hO;have HBE:=Hi hbe;have HWE:=Hi hwe;have HSE:=Hi hse;have HBOE:=Hi hboe;have HGG:=Hi hgg;have HXe:=Hi (HXr.out.upd hure (show ¬ w.heap.size=w1.heap.size by omega));have HBe:=Hi (HBr.out.trans (hure.below (B:=w.heap.size) (by omega) fun k hk=>by omega));clear how how' hts hure hU hO hbe hwe hboe hgg;rw [hse] at HLI;go_wp2_with (at_builtin;rw [HWE.out];refine wpList_where rfl _ _ 23 rfl (bo+1) 26 i0 (.agg zNd) 6 88 Tryz.underlying23 HI.out HZ0.out HZ1.out HZ2.out rfl (by decide) _ zs.length _ rfl HOA.out ⟨wd.heap.size+1,0,none⟩ 1 1 (ndC k' a' s' m' A2 la' cA' B' lb' cB') rfl rfl HLI.out (by simp [ndC,Value.oneCell']) (by unfold maxLen;omega) (by omega) HBS.out (by decide) ?_;intro g8 c8 w8' hE;have HE8:=Hi hE;have hbo8:=bo_after hE HBOE.out (fun g hg=>by have:=HGG.out g hg;omega);clear hE e0 e1 e2 e3 e4 e5 y0 y1 y2 y3 y4 y5;obtain ⟨⟨e0,e1,e2,e3,e4,e5⟩,y0,y1,y2,y3,y4,y5⟩:=Blk.c6 hbo8;have hbo8l:=hbo8.lt;have HBO8:=Hi hbo8;clear hbo8)
    have hu8:Upd (fun b=>(Value.slice A' zs.length c').ownBlock=some b) we w8':=((Upd.refl (fun b=>(Value.slice A' zs.length c').ownBlock=some b) we).alloc _).grown HE8.out.grown fun k hk _=>hk
    have hs8:=hu8.size;have HBO9:=Hi (show Blk (w8'.setCell ⟨bo,4,none⟩ (.slice (some ⟨g8,0,none⟩) (zs.length+1) c8)) bo 26 #[.int .i64 13,.string ⟨#[]⟩,.int .u32 0,.int .i64 (t0.at_:Int),.slice (some ⟨g8,0,none⟩) (zs.length+1) c8,.slice none 0 0] from HBO8.out.set 4 _);have hu9:Upd (fun b=>b=bo) w8' (w8'.setCell ⟨bo,4,none⟩ (.slice (some ⟨g8,0,none⟩) (zs.length+1) c8)):=(Upd.refl (fun b=>b=bo) w8').setCell (fun _=>rfl) _;have hX9:=(HXe.out.upd hu8 fun h=>by have:=HGG.out _ h;omega).upd hu9 (show ¬ w.heap.size=bo by omega);have hB9:Below w.heap.size w (w8'.setCell ⟨bo,4,none⟩ (.slice (some ⟨g8,0,none⟩) (zs.length+1) c8)):=(HBe.out.trans (hu8.below (by omega) fun k hk=>by have:=HGG.out _ hk;omega)).trans (hu9.below (by omega) fun k hk=>by omega);have hJ9:PrI w1.heap.size bo (t0 :: r0) (some ⟨g8,0,none⟩) (zs.length+1) c8 (w8'.setCell ⟨bo,4,none⟩ (.slice (some ⟨g8,0,none⟩) (zs.length+1) c8))∧meQ (w8'.setCell ⟨bo,4,none⟩ (.slice (some ⟨g8,0,none⟩) (zs.length+1) c8)) w1.heap.size < meQ wr w1.heap.size:=by
     have hmr:=HQL.out.me;simp only [List.length_cons] at hmr;rcases HO.out with ⟨y,r5,hT,hR,hP,hG,hr⟩ | ⟨ba,er,t5,r5,he,hR,hP⟩
     ·have hTe:TIn (fun b=>wr.heap.size≤b) we y (ndC k' a' s' m' A2 la' cA' B' lb' cB'):=(tup hT (show wr.heap.size≤wa.heap.size by omega)).upd (Upd.of_below HBE.out fun _=>False) (fun _ _ h=>h);have hst:=av_step HOW.out HTS.out (by omega) (by omega) HURE.out hTe HE8.out;have hq9:=((hP.below HBE.out).far hu8 fun b hb=>by have:=HGG.out _ hb;omega).far hu9 fun b hb=>by omega
      simp only [List.length_cons] at hr;refine ⟨.inl ⟨r5,zs ++ [y],by simp,hq9,hG,by simp;omega,?_,fun o h=>HRD.out o (r_stmts HK.out hR h)⟩,?_⟩
      ·rw [List.length_append];exact hst.upd hu9 fun b hb=>by omega
      ·have:=hq9.me;omega
     ·have hq9:=((hP.below HBE.out).far hu8 fun b hb=>by have:=HGG.out _ hb;omega).far hu9 fun b hb=>by omega
      refine ⟨.inr ⟨ba,er,t5,r5,he,HRD.out _ (r_stmts_bad HK.out hR),hq9⟩,?_⟩;have:=hq9.me0 he;omega
    have HX9:=Hi hX9;have HB9:=Hi hB9;have HJ9:=Hi hJ9;clear hu8 hu9 hX9 hB9 hJ9
    go_roundw
    case rel=>exact ⟨some ⟨g8,0,none⟩,zs.length+1,c8,Hi HJ9.out.1,HBO9,HX9,HB9⟩
    case measure=>exact HJ9.out.2
  ·obtain ⟨b',o',c2,n'',hnn,hln,hcc,hmm,⟨c0,c1,c2',c3⟩,⟨z0,z1,z2,z3⟩,f4,f5,f6⟩:=hP9.head;have hbpl2:=hP9.lt;have hwy:((er:Int)==0)=false:=by simp;omega
   have HD:=Hi (done_dead wr w1.heap.size ba er v r' hP9 he 13 t0.at_ 0 n c' 0 0 [] A' none);have HBD:=Hi (HRB.out ba er hR9);obtain ⟨⟨e0,e1,e2,e3,e4,e5⟩,y0,y1,y2,y3,y4,y5⟩:=Blk.c6 HBOr.out;clear HJ hP9 hR9 he hnn hln hcc hmm c0 c1 c2' z0 z1 z2 z3 f4 f5 f6;go_wp2_with fail
   clear c3 hwy;refine (show Calls Tryz.prog 27 #[.pointer (some ⟨w1.heap.size,0,none⟩),.agg #[.int .i64 13,.string ⟨#[]⟩,.int .u32 0,.int .i64 (t0.at_:Int),.slice A' n c',.slice none 0 0]] wr _ from HD.out).mono ?_;rintro e wd ⟨rfl,hbd⟩;have hX:=HXr.out.below hbd HXr.out.lt;have hxl:=hX.lt;clear e0 e1 e2 e3 e4 e5 y0 y1 y2 y3 y4 y5;obtain ⟨⟨e0,e1,e2,e3,e4,e5⟩,z0,z1,z2,z3,z4,z5⟩:=Blk.c6 hX;have hu:Upd (fun b=>b=w.heap.size) wd _:=put6_upd (X:=fun b=>b=w.heap.size) (Upd.refl _ wd) (fun _=>rfl) (.int .i64 0) (.string ⟨#[]⟩) (.int .u32 0) (.int .i64 0) (.slice none 0 0) (.slice none 0 0);have HEND:=Hi (rdp_bad (w:=w) (w':=put6 wd w.heap.size (.int .i64 0) (.string ⟨#[]⟩) (.int .u32 0) (.int .i64 0) (.slice none 0 0) (.slice none 0 0)) HBD.out (((Upd.of_below (HBr.out.trans (hbd.mono HBr.out.size)) (fun b=>b=w.heap.size)).trans hu).below (Nat.le_refl _) fun k hk=>by omega));have HN:=Hi (Blk.put6 hX (.int .i64 0) (.string ⟨#[]⟩) (.int .u32 0) (.int .i64 0) (.slice none 0 0) (.slice none 0 0));clear hX hu hbd;go_wp2_with fail
   exact bodyPost_ret (v:=zV ba er) (res_ctt rfl _ _ rfl HN.out rfl rfl rfl) rfl HEND.out
end Go.Proofs.YtcgibpdjfgjldaaGreatDoor.Pq
namespace Go.Proofs.YtcgibpdjfgjldaaGreatDoor.Nm
open Go Lx Pa Sh
theorem nrun_le(base:Nat):∀ (l:List UInt8) (n m:Nat),n≤4294967296→Num.nrun base l n=some m→m≤4294967296
 | [],n,m,h,e=>by
  unfold Num.nrun at e;cases e;exact h
 | c :: l,n,m,h,e=>by
  unfold Num.nrun at e;split at e
  ·exact nrun_le base l _ m (Nat.min_le_right ..) e
  ·cases e
theorem numV_lt(b:Bs):(numV b).1 < 4294967296:=by
 unfold numV Num.numR;split
 ·decide
 ·split
  ·decide
  ·next h=>
   have:=nrun_le _ _ _ _ (by decide) h;split
   ·decide
   ·simp only;omega
def pw:List Bs→Nat
 | []=>0
 | p :: ps=>p.length+1+pw ps
mutual
def wt:Tr→Nat
 | .mk _ _ s _ ps l=>1+s.length+pw ps+wts l
def wts:List Tr→Nat
 | []=>0
 | x :: l=>wt x+wts l
end
def tw:List Tk→Nat
 | []=>0
 | t :: l=>t.s.length+1+tw l
theorem pw_app:∀ (a b:List Bs),pw (a ++ b)=pw a+pw b
 | [],b=>by simp [pw]
 | p :: a,b=>by
  show p.length+1+pw (a ++ b)=p.length+1+pw a+pw b;rw [pw_app a b];omega
theorem wts_app:∀ (a b:List Tr),wts (a ++ b)=wts a+wts b
 | [],b=>by simp [wts]
 | x :: a,b=>by
  show wt x+wts (a ++ b)=wt x+wts a+wts b;rw [wts_app a b];omega
theorem wt_put(x:Tr)(a:Nat):wt (x.put a)=wt x:=by cases x;rfl
theorem wts_put(a:Nat):∀ l:List Tr,wts (l.map (·.put a))=wts l
 | []=>rfl
 | x :: l=>by
  show wt (x.put a)+wts (l.map _)=wt x+wts l;rw [wt_put,wts_put a l]
def baseN:NT→Nat
 | .more _ x=>wt x
 | .args l=>wts l
 | .fin _ _ s ps=>1+s.length+pw ps
 | .inners l=>wts l
 | .stmts l=>wts l
 | _=>0
def sglN:NT→Prop
 | .lev _=>True
 | .more _ _=>True
 | _=>False
def Ct(p:Prop)(b:Nat):OO→Prop
 | some (.ok xs r)=>wts xs+tw r≤b∧(p→∃ x l,xs=x :: l)
 | _=>True
section
variable {p p' : Prop} {b b' : Nat}
theorem ct_wrong(l:List Tk)(e:Nat):Ct p b (wrong l e):=trivial
theorem ct_if{c:Prop}[Decidable c]{o q:OO}(h1:c→Ct p b o)(h2:¬ c→Ct p b q):Ct p b (if c then o else q):=by
 by_cases h:c
 ·rw [if_pos h];exact h1 h
 ·rw [if_neg h];exact h2 h
theorem ct_bnd{o:OO}{f:List Tr→List Tk→OO}(h:Ct p b o)(hf:∀ xs r,wts xs+tw r≤b→(p→∃ x l,xs=x :: l)→Ct p' b' (f xs r)):Ct p' b' (bnd o f):=by
 rcases o with _ | ⟨xs,r⟩ | ⟨a,e⟩
 ·trivial
 ·exact hf xs r h.1 h.2
 ·trivial
theorem ct_up{o:OO}(h:Ct p b o)(hb:b≤b')(hp:p'→p):Ct p' b' o:=by
 rcases o with _ | ⟨xs,r⟩ | ⟨a,e⟩
 ·trivial
 ·exact ⟨Nat.le_trans h.1 hb,fun h'=>h.2 (hp h')⟩
 ·trivial
theorem ct_ok{xs:List Tr}{r:List Tk}(h:wts xs+tw r≤b)(hp:p→∃ x l,xs=x :: l):Ct p b (some (.ok xs r)):=⟨h,hp⟩
theorem ct_must{s:Bs}{l:List Tk}{f:List Tk→OO}(hf:∀ r,tw r+1≤tw l→Ct p b (f r)):Ct p b (must s l f):=by
 cases l with
 | nil=>trivial
 | cons t r=>exact ct_if (fun _=>hf r (by show tw r+1≤t.s.length+1+tw r;omega)) fun _=>ct_wrong _ _
theorem ct_name{l:List Tk}{f:Bs→List Tk→OO}(hf:∀ s r,s.length+1+tw r=tw l→Ct p b (f s r)):Ct p b (nameK l f):=by
 cases l with
 | nil=>trivial
 | cons t r=>exact ct_if (fun hk=>hf t.s r rfl) fun _=>ct_wrong _ _
theorem ct_names{f:List Bs→List Tk→OO}{c:Nat}(hf:∀ ps r,pw ps+tw r≤c→Ct p b (f ps r)):∀ (ps:List Bs) (l:List Tk),pw ps+tw l≤c→Ct p b (namesK ps l f)
 | _,[],_=>trivial
 | ps,[t],h=>by
  unfold namesK;refine ct_if (fun hk=>hf _ _ ?_) fun _=>ct_wrong _ _
  rw [pw_app];have:tw [t]=t.s.length+1+tw []:=rfl;show pw ps+(t.s.length+1+0)+tw []≤c;omega
 | ps,t :: u :: r,h=>by
  unfold namesK;have e:tw (t :: u :: r)=t.s.length+1+(u.s.length+1+tw r):=rfl;have e2:pw (ps ++ [t.s])=pw ps+(t.s.length+1+0):=pw_app _ _;have e3:tw (u :: r)=u.s.length+1+tw r:=rfl;refine ct_if (fun hk=>ct_if (fun _=>ct_names hf _ r (by omega)) fun _=>hf _ _ (by omega)) fun _=>ct_wrong _ _
end
theorem wts_one(x:Tr):wts [x]=wt x:=by show wt x+0=_;omega
theorem tw_cons(t:Tk)(l:List Tk):tw (t :: l)=t.s.length+1+tw l:=rfl
theorem wts_cons(x:Tr)(l:List Tr):wts (x :: l)=wt x+wts l:=rfl
theorem wt_mk(k a:Nat)(s:Bs)(n:Nat)(ps:List Bs)(l:List Tr):wt (.mk k a s n ps l) = 1+s.length+pw ps+wts l:=rfl
theorem pw_nil:pw [] = 0:=rfl
theorem wts_nil:wts [] = 0:=rfl
theorem pF_much{num:Bs→Nat×Nat}:∀ (f:Nat) (nt:NT) (d:Nat) (l:List Tk),Ct (sglN nt) (baseN nt+tw l) (pF num f nt d l):=by
 intro f
 induction f with
 | zero=>intros;trivial
 | succ f ih=>
  intro nt d l;cases nt with
  | lev n=>
   unfold pF;refine ct_if (fun _=>ct_bnd (ih (.lev (n+1)) _ _) fun xs r hx hs=>?_) fun _=>?_
   ·obtain ⟨x,m,rfl⟩:=hs trivial;refine ct_up (ih (.more n x) _ _) ?_ (fun h=>h);simp only [baseN,wts_cons] at hx ⊢;omega
   cases l with
   | nil=>trivial
   | cons t r=>
   refine ct_if (fun _=>ct_wrong _ _) fun _=>ct_if (fun hs=>?_) fun _=>ct_if (fun hk=>?_) fun _=>ct_if (fun hs=>?_) fun _=>ct_name fun s r hs=>?_
   ·refine ct_bnd (ih (.lev 5) _ _) fun xs r' hx _=>⟨?_,fun _=>⟨_,_,rfl⟩⟩
    simp only [baseN] at hx;simp only [baseN,wts_one,wt_mk,tw_cons,pw_nil];omega
   ·refine ct_if (fun _=>⟨?_,fun _=>⟨_,_,rfl⟩⟩) fun _=>ct_wrong _ _
    simp only [baseN,wts_one,wt_mk,tw_cons,pw_nil,wts_nil,List.length_nil];omega
   ·refine ct_bnd (ih (.lev 0) _ _) fun xs r' hx hs=>ct_must fun r2 hr2=>⟨?_,fun _=>?_⟩
    ·rw [wts_put];simp only [baseN] at hx;simp only [baseN,tw_cons];omega
    ·obtain ⟨x,m,rfl⟩:=hs trivial;exact ⟨_,_,rfl⟩
   ·cases r with
    | nil=>
     refine ⟨?_,fun _=>⟨_,_,rfl⟩⟩;simp only [baseN,wts_one,wt_mk,pw_nil,wts_nil];omega
    | cons u r'=>
     refine ct_if (fun hu=>?_) fun _=>⟨?_,fun _=>⟨_,_,rfl⟩⟩
     ·refine ct_bnd (ih (.lev 0) _ _) fun xs r2 hx _=>ct_bnd (ih (.args xs) _ _) fun ys r3 hy _=>ct_must fun r4 hr4=>⟨?_,fun _=>⟨_,_,rfl⟩⟩
      simp only [baseN] at hx hy;simp only [tw_cons] at hs;simp only [baseN,wts_one,wt_mk,pw_nil,tw_cons];omega
     ·simp only [baseN,wts_one,wt_mk,pw_nil,wts_nil];omega
  | more n x=>
   unfold pF;cases l with
   | nil=>exact ⟨by simp only [baseN,wts_one];omega,fun _=>⟨_,_,rfl⟩⟩
   | cons t r=>
    refine ct_if (fun hs=>ct_bnd (ih (.lev (n+1)) _ _) fun ys r' hy _=>?_) fun _=>⟨by simp only [baseN,wts_one];omega,fun _=>⟨_,_,rfl⟩⟩
    refine ct_up (ih (.more n (.mk (if n = 3 then 4 else 3) x.place t.s 0 [] (x :: ys))) d r') ?_ (fun h=>h);simp only [baseN] at hy;simp only [baseN,wt_mk,wts_cons,pw_nil,tw_cons];omega
  | args xs=>
   unfold pF;cases l with
   | nil=>exact ⟨by simp only [baseN];omega,fun h=>h.elim⟩
   | cons t r=>
    refine ct_if (fun hs=>ct_bnd (ih (.lev 0) _ _) fun ys r' hy _=>?_) fun _=>⟨by simp only [baseN];omega,fun h=>h.elim⟩
    refine ct_up (ih (.args (xs ++ ys)) d r') ?_ (fun h=>h);simp only [baseN] at hy;simp only [baseN,wts_app,tw_cons];omega
  | fin k a s ps=>
   unfold pF;refine ct_bnd (ih (.lev 0) _ _) fun xs r hx _=>ct_must fun r' hr'=>⟨?_,fun h=>h.elim⟩
   simp only [baseN] at hx;simp only [baseN,wts_one,wt_mk];omega
  | inner=>
   unfold pF;cases l with
   | nil=>trivial
   | cons t r=>
    refine ct_if (fun _=>ct_wrong _ _) fun _=>ct_if (fun hs=>?_) fun _=>ct_name fun s r hs=>ct_must fun r2 hr2=>?_
    ·refine ct_name fun s r1 hs=>ct_must fun r2 h2=>ct_bnd (ih (.lev 0) _ _) fun xs r3 hx _=>ct_must fun r4 h4=>ct_bnd (ih (.lev 0) _ _) fun ys r5 hy _=>ct_must fun r6 h6=>ct_bnd (ih (.inners (xs ++ ys)) _ _) fun zs r7 hz _=>⟨?_,fun h=>h.elim⟩
     simp only [baseN,wts_app] at hx hy hz;simp only [baseN,wts_one,wt_mk,pw_nil,tw_cons];omega
    ·refine ct_up (ih (.fin 10 t.at_ s []) d r2) ?_ (fun h=>h);simp only [baseN,pw_nil];omega
  | inners zs=>
   unfold pF;cases l with
   | nil=>trivial
   | cons t r=>
    refine ct_if (fun _=>⟨?_,fun h=>h.elim⟩) fun _=>ct_bnd (ih .inner _ _) fun xs r' hx _=>?_
    ·simp only [baseN,tw_cons];omega
    ·refine ct_up (ih (.inners (zs ++ xs)) d r') ?_ (fun h=>h);simp only [baseN] at hx;simp only [baseN,wts_app];omega
  | stmt=>
   unfold pF;cases l with
   | nil=>trivial
   | cons t r=>
    have fin:∀ (k:Nat) (s:Bs) (ps:List Bs) (r2:List Tk),1+s.length+pw ps+tw r2≤tw (t :: r)→Ct (sglN .stmt) (baseN .stmt+tw (t :: r)) (pF num f (.fin k t.at_ s ps) d r2):=fun k s ps r2 h=>ct_up (ih (.fin k t.at_ s ps) d r2) (by simp only [baseN];omega) (fun h=>h)
    have e0:=tw_cons t r;refine ct_if (fun _=>?_) fun _=>ct_if (fun _=>?_) fun _=>ct_if (fun _=>?_) fun _=>ct_if (fun _=>?_) fun _=>ct_if (fun _=>?_) fun _=>?_
    ·exact ct_names (c:=tw r) (fun ps r1 h1=>ct_must fun r2 h2=>ct_ok (by simp only [baseN,wts_one,wt_mk,wts_nil,List.length_nil];omega) fun h=>h.elim) [] r (by simp only [pw_nil];omega)
    ·exact ct_names (c:=tw r) (fun ps r1 h1=>ct_must fun r2 h2=>ct_ok (by simp only [baseN,wts_one,wt_mk,wts_nil,List.length_nil];omega) fun h=>h.elim) [] r (by simp only [pw_nil];omega)
    ·exact ct_name fun s r1 h1=>ct_must fun r2 h2=>fin 8 s [] r2 (by simp only [pw_nil];omega)
    ·exact ct_name fun s r1 h1=>ct_must fun r2 h2=>fin 9 s [] r2 (by simp only [pw_nil];omega)
    ·exact ct_name fun s r1 h1=>ct_must fun r2 h2=>ct_names (c:=tw r2) (fun ps r3 h3=>ct_must fun r4 h4=>ct_must fun r5 h5=>fin 12 s ps r5 (by omega)) [] r2 (by simp only [pw_nil];omega)
    ·exact ct_up (ih .inner 0 (t :: r)) (by simp only [baseN];omega) (fun h=>h)
  | stmts xs=>
   unfold pF;cases l with
   | nil=>trivial
   | cons t r=>
    refine ct_if (fun _=>⟨by simp only [baseN];omega,fun h=>h.elim⟩) fun _=>ct_bnd (ih .stmt _ _) fun ys r' hy _=>?_
    refine ct_up (ih (.stmts (xs ++ ys)) d r') ?_ (fun h=>h);simp only [baseN] at hy;simp only [baseN,wts_app];omega
theorem tw_le(b:Nat):∀ (l:List Tk),(∀ t∈l,t.s.length≤b)→tw l≤l.length * (b+1)
 | [],_=>by simp [tw]
 | t :: l,h=>by
  have h1:=tw_le b l fun u hu=>h u (by simp [hu])
  have h2:=h t (by simp);rw [tw_cons,List.length_cons,Nat.succ_mul];omega
theorem tw_words{s:Bs}(h:(wordsL s).er = 0):tw (wordsL s).l≤80004000:=by
 obtain ⟨_,h2,h3⟩:=words_gt h;have h1:=tw_le 20000 (wordsL s).l fun t ht=>(h2 t ht).2
 have:(wordsL s).l.length * 20001≤4000 * 20001:=Nat.mul_le_mul_right _ h3;omega
theorem pw_mem:∀ {ps:List Bs} {p:Bs},p∈ps→p.length≤pw ps
 | q :: ps,p,h=>by
  show _≤q.length+1+pw ps;rcases List.mem_cons.1 h with rfl | h
  ·omega
  ·have:=pw_mem h;omega
theorem pw_len:∀ ps:List Bs,ps.length≤pw ps
 | []=>Nat.le_refl _
 | p :: ps=>by
  have:=pw_len ps;show ps.length+1≤p.length+1+pw ps;omega
mutual
theorem lenz_wt:∀ (x:Tr),wt x≤maxLen→lenz (embz x)
 | .mk k a s n ps l,h=>by
  rw [wt_mk] at h;unfold embz lenz;exact ⟨by omega,fun p hp=>by have:=pw_mem hp;omega,lenzs_wt l (by omega)⟩
theorem lenzs_wt:∀ (l:List Tr),wts l≤maxLen→lenzs (embs l)
 | [],_=>by unfold embs lenzs;trivial
 | x :: l,h=>by
  rw [wts_cons] at h;unfold embs lenzs;exact ⟨lenz_wt x (by omega),lenzs_wt l (by omega)⟩
end
mutual
theorem nbz_wt:∀ (x:Tr),nbz (embz x)≤wt x
 | .mk k a s n ps l=>by
  rw [wt_mk];have:=nbzs_wt l;have:=pw_len ps;unfold embz nbz;omega
theorem nbzs_wt:∀ (l:List Tr),nbzs (embs l)≤wts l
 | []=>by unfold embs nbzs;exact Nat.zero_le _
 | x :: l=>by
  rw [wts_cons];have:=nbz_wt x;have:=nbzs_wt l;unfold embs nbzs;omega
end
theorem prog_z{s:Bs}{x:Tr}{t:Tk}{r:List Tk}(he:(wordsL s).er = 0)(h:ProgR (wordsL s).l (.ok [x] (t :: r))):lenz (embz x)∧nbz (embz x)≤1099511627776∧okPs 0 (lz (embz x)):=by
 obtain ⟨zs,e1,h1,_⟩:=h;simp only [List.cons.injEq,and_true] at e1;subst e1;obtain ⟨f,hf⟩:=h1.at_;have hm:=pF_much (num:=numV) f (.stmts []) 0 (wordsL s).l;rw [hf] at hm;have hw:=tw_words he;have hm1:=hm.1;have hwz:wts zs≤80004000:=by
  have:baseN (.stmts []) = 0:=rfl;omega
 refine ⟨lenz_wt _ ?_,?_,?_⟩
 ·rw [wt_mk];simp only [pw_nil,List.length_nil];unfold maxLen;omega
 ·have:=nbz_wt (.mk 13 (hdA (wordsL s).l) [] 0 [] zs);rw [wt_mk] at this;simp only [pw_nil,List.length_nil] at this;omega
 ·have hg:=pF_made (num:=numV) (Q:=fun _=>True) numV_lt f (.stmts []) 0 (wordsL s).l trivial (fun _ _ _=>trivial);rw [hf] at hg;obtain ⟨ys,e,hy⟩:=hg.1;have:zs=ys:=by simpa using e
  subst this;show okPs 0 (embs zs);exact okPs_gT hy
theorem prog_one{l:List Tk}{x x':Tr}{t t':Tk}{r r':List Tk}(h:ProgR l (.ok [x] (t :: r)))(h':ProgR l (.ok [x'] (t' :: r'))):x=x':=by
 obtain ⟨zs,e1,h1,_⟩:=h;obtain ⟨zs',e2,h2,_⟩:=h';have:=Rd.one h1 h2;cases this;simp only [List.cons.injEq,and_true] at e1 e2;rw [e1,e2]
theorem prog_ok_bad{l:Wd}{x:Tr}{t:Tk}{r:List Tk}{a er:Nat}(he:l.er = 0)(h:ProgR l.l (.ok [x] (t :: r)))(h':BadR ProgR l a er):False:=by
 obtain ⟨zs,e1,h1,t1,r1,e2,hk⟩:=h;rcases h' with ⟨h,_⟩ | ⟨_,h | ⟨xs,t',r',h,hk',_⟩⟩
 ·exact h he
 ·have:=Rd.one (show Rd numV (.stmts []) 0 l.l (.bad a er) from h) h1;cases this
 ·obtain ⟨zs',e3,h3,_⟩:=h;have:=Rd.one h1 h3;simp only [Out.ok.injEq] at this;rw [e2] at this;cases this.2;exact hk' hk
theorem prog_er{s:Bs}{a er:Nat}(h:BadR ProgR (wordsL s) a er):er≠0:=by
 rcases h with ⟨h,_,rfl⟩ | ⟨h0,h | ⟨_,_,_,_,_,_,rfl⟩⟩
 ·exact h
 ·obtain ⟨f,hf⟩:=(show Rd numV (.stmts []) 0 (wordsL s).l (.bad a er) from h).at_;have:=(tells h0 hf).2;omega
 ·decide
end Go.Proofs.YtcgibpdjfgjldaaGreatDoor.Nm
