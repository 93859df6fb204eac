/- DERIVED. FlOpen, PaRd. By an AI agent. -/
import Derived.Test.YtcgibpdjfgjldaaGreatDoorQ01
import Derived.Test.YtcgibpdjfgjldaaGreatDoorQ07
import Derived.Test.YtcgibpdjfgjldaaGreatDoorQ04
import Derived.Test.YtcgibpdjfgjldaaGreatDoorQ10
import Derived.Deep.Cut
import Derived.Carry
import Derived.Deep.CutBlock
import Derived.Test.YtcgibpdjfgjldaaGreatDoorQ05
set_option maxRecDepth 100000
set_option maxHeartbeats 4000000
namespace Go.Proofs.YtcgibpdjfgjldaaGreatDoor.HT
open Go
variable {P : Program} {ops : Array Oper} {Q : Exit → Act → World → Prop} {md : Region.Mode} {Z S : World → Prop} {st : List Nat}
theorem two{i j:Nat}{oi oj:Oper}{f:Nat}{listed:Array Bool}{a:Act}{w:World}(hr:Region.ready md ops listed=[i,j])(hi:ops[i]?=some oi)(hj:ops[j]?=some oj)
  (h1:∀ K:Act→World→Prop,Shut (∀ a' w',Z w'→S w'→anyT P md ops Q Z S st f (listed.setIfInBounds i true) a' w'→K a' w')→if Region.wanted oi (yielded ops a.tmps)=true then Oper.wp P oi a w K Q else K (a.put oi.dst undef) w)
  (h2:∀ K:Act→World→Prop,Shut (∀ a' w',Z w'→S w'→anyT P md ops Q Z S st f (listed.setIfInBounds j true) a' w'→K a' w')→if Region.wanted oj (yielded ops a.tmps)=true then Oper.wp P oj a w K Q else K (a.put oj.dst undef) w):anyT P md ops Q Z S st (f+1) listed a w:=
 ⟨fun h0=>by rw [hr] at h0;(cases h0),fun k hk=>by
  rw [hr] at hk;rcases List.mem_cons.1 hk with rfl | hk
  ·exact wpOp_step hi fun K hK=>h1 K fun a' w' hZ hS hW=>hK a' w' ⟨⟨hZ,fun _=>hS⟩,hW⟩
  ·obtain rfl:=List.mem_singleton.1 hk;exact wpOp_step hj fun K hK=>h2 K fun a' w' hZ hS hW=>hK a' w' ⟨⟨hZ,fun _=>hS⟩,hW⟩⟩
end Go.Proofs.YtcgibpdjfgjldaaGreatDoor.HT
namespace Go.Proofs.YtcgibpdjfgjldaaGreatDoor.Fl
open Go Go.ChangeShapes Go.WideShapes Go.ChangeAt Go.RowKit Lx Args Pa Sh Go.Proofs.YtcgibpdjfgjldaaGreatDoor.Nm
set_option linter.unusedVariables false
set_option linter.unusedSimpArgs false
def opC:List Value→List Value
 | .int .i64 k :: r=>.int .i64 (if k = 6 then 7 else k) :: r
 | c=>c
theorem opC_nz(k a:Int)(s:Bs)(n:Nat)(A:Option Addr)(la cA:Nat)(B:Option Addr)(lb cB:Nat):opC (nzC k a s n A la cA B lb cB)=nzC (if k = 6 then 7 else k) a s n A la cA B lb cB:=rfl
theorem opT_c{q:Prop}{w:World}:∀ {z:Tz} {c:List Value},TIc q w z c→TIc q w (opT z) (opC c)
 | .mk k a s n ps l,c,h=>by
  show TIc q w (.mk (if k = 6 then 7 else k) a s n ps l) (opC c);unfold TIc at h ⊢;obtain ⟨A,cA,B,cB,rfl,h⟩:=h;exact ⟨A,cA,B,cB,opC_nz ..,h⟩
theorem opT_cs{q:Prop}{w:World}:∀ {l:List Tz} {css:List (List Value)},TsIc q w l css→TsIc q w (l.map opT) (css.map opC)
 | [],_,h=>by unfold TsIc at h;subst h;unfold TsIc;rfl
 | x :: l,_,h=>by
  unfold TsIc at h;obtain ⟨c,r,rfl,h1,h2⟩:=h;rw [List.map_cons,List.map_cons];unfold TsIc;exact ⟨_,_,rfl,opT_c h1,opT_cs h2⟩
def opN:Nat→List (List Value)→List (List Value)
 | 0,css=>css
 | _,[]=>[]
 | i+1,c :: css=>opC c :: opN i css
theorem opN_all:∀ {i:Nat} {css:List (List Value)},css.length≤i→opN i css=css.map opC
 | 0,[],_=>rfl
 | 0,c :: css,h=>by simp at h
 | i+1,[],_=>rfl
 | i+1,c :: css,h=>by unfold opN;rw [opN_all (by simpa using h)];rfl
theorem six{q:Prop}{w:World}{z:Tz}{c:List Value}(h:TIc q w z c):c.length = 6:=by
 obtain ⟨_,_,_,_,_,_,_,_,_,_,rfl⟩:=tIz_cells h;rfl
theorem six_op(c:List Value):(opC c).length=c.length:=by unfold opC;split <;> rfl
theorem opN_at{q:Prop}{w:World}:∀ {l:List Tz} {css:List (List Value)} (i:Nat) (x:Tz),TsIc q w l css→l[i]?=some x→∃ k a s n A la cA B lb cB,(opN i css).flatten[i * 6]?=some (.int .i64 k)∧i * 6 < (opN i css).flatten.length∧(k = 6→opN (i+1) css=opN (i+1) css∧(opN (i+1) css).flatten=(opN i css).flatten.set (i * 6) (.int .i64 7))∧(k≠6→(opN (i+1) css).flatten=(opN i css).flatten)∧TIc q w x (nzC k a s n A la cA B lb cB)
 | [],css,i,x,_,hx=>by simp at hx
 | y :: l,css,0,x,h,hx=>by
  unfold TsIc at h;obtain ⟨c,r,rfl,h1,h2⟩:=h;have:y=x:=by simpa using hx
  subst this;obtain ⟨k,a,s,n,A,la,cA,B,lb,cB,rfl⟩:=tIz_cells h1;refine ⟨k,a,s,n,A,la,cA,B,lb,cB,rfl,by unfold opN;rw [List.flatten_cons,List.length_append];show 0 * 6 < 6+_;omega,fun hk=>⟨rfl,?_⟩,fun hk=>?_,h1⟩
  ·subst hk;rfl
  ·show (opC (nzC k a s n A la cA B lb cB) :: opN 0 r).flatten=_;rw [opC_nz,if_neg hk];rfl
 | y :: l,css,i+1,x,h,hx=>by
  unfold TsIc at h;obtain ⟨c,r,rfl,h1,h2⟩:=h;obtain ⟨k,a,s,n,A,la,cA,B,lb,cB,g1,g2,g3,g4,g5⟩:=opN_at i x h2 (by simpa using hx);have h6:(opC c).length = 6:=by rw [six_op,six h1]
  have e:(i+1) * 6=(opC c).length+i * 6:=by rw [h6];omega
  refine ⟨k,a,s,n,A,la,cA,B,lb,cB,?_,?_,fun hk=>⟨rfl,?_⟩,fun hk=>?_,g5⟩
  ·show (opC c :: opN i r).flatten[(i+1) * 6]?=_;rw [List.flatten_cons,List.getElem?_append_right (by omega),←g1]
   congr 1;omega
  ·show (i+1) * 6 < (opC c :: opN i r).flatten.length;rw [List.flatten_cons,List.length_append];omega
  ·show (opC c :: opN (i+1) r).flatten=(opC c :: opN i r).flatten.set ((i+1) * 6) _;rw [List.flatten_cons,List.flatten_cons,(g3 hk).2,List.set_append_right _ _ (by omega)]
   congr 2;omega
  ·show (opC c :: opN (i+1) r).flatten=(opC c :: opN i r).flatten;rw [List.flatten_cons,List.flatten_cons,g4 hk]
theorem own_set{w:World}{lo:Nat}{e:TypeId}{size n c g:Nat}{xs:List Value}(h:w.ownsRow lo e size (.slice (some ⟨g,0,none⟩) n c) n xs)(j:Nat)(hj:j < n * size)(u:Value):(w.setCell ⟨g,j,none⟩ u).ownsRow lo e size (.slice (some ⟨g,0,none⟩) n c) n (xs.set j u):=by
 obtain ⟨h1,h2⟩:=h;refine ⟨by rw [List.length_set];exact h1,?_⟩;rcases h2 with ⟨h2,_⟩ | ⟨g',cap,cur,h3,h4,h5,h6,h7,h8,h9⟩
 ·cases h2
 ·cases h3;have hb:Blk w g e cur:=h5;refine .inr ⟨g,c,cur.setIfInBounds j u,rfl,h4,hb.set j u,h6,h7,by simpa using h8,?_⟩;rw [Array.toList_setIfInBounds,List.take_set,h9]
theorem own_blk{w:World}{lo:Nat}{e:TypeId}{size n c g:Nat}{xs:List Value}(h:w.ownsRow lo e size (.slice (some ⟨g,0,none⟩) n c) n xs):∃ cur,Blk w g e cur∧cur.size=c * size∧n≤c:=by
 rcases h.2 with ⟨h2,_⟩ | ⟨g',cap,cur,h3,h4,h5,h6,h7,h8,h9⟩
 ·cases h2
 ·cases h3;exact ⟨cur,h5,h8,h6⟩
theorem own_empty'(w:World){lo:Nat}(hb:lo≤w.heap.size)(e:TypeId)(size:Nat):(w.alloc (.cells #[] e)).ownsRow lo e size (.slice (some ⟨w.heap.size,0,none⟩) 0 0) 0 []:=
 own_full w hb e size 0 [] (by simp) (by decide)
abbrev zAo:Value:=.agg #[.int .i64 0,.string ⟨#[]⟩,.int .u32 0,.int .i64 0,.slice none 0 0,.slice none 0 0]
theorem szNdo:(Tryz.prog.info? 26).map (·.size)=some 6:=by kernel_rfl
theorem infoNd':(Tryz.prog.info? 26).map (fun i=>(i.zero,i.size,i.bytes))=some (some zAo,6,88):=by kernel_rfl
theorem below_grown{wy W w8:World}{u:Value}{b0:Nat}(hb:Below wy.heap.size wy W)(hg:W.grownBy w8 u.ownBlock)(hu:u.ownBlock=some b0)(h0:wy.heap.size≤b0):Below wy.heap.size wy w8:=
 ((Upd.of_below hb (fun _=>False)).grown hg (fun k hk hlt=>by rw [hu] at hk;cases hk;omega)).below (Nat.le_refl _) (fun k h=>h.elim)
theorem tsIc_one'{q:Prop}{w:World}:∀ {l:List Tz} {css:List (List Value)},TsIc q w l css→∀ u∈css.flatten,u.oneCell'=true
 | [],_,h,u,hu=>by unfold TsIc at h;subst h;simp at hu
 | x :: l,_,h,u,hu=>by
  unfold TsIc at h;obtain ⟨c,r,rfl,h2,h3⟩:=h;rw [List.flatten_cons] at hu;rcases List.mem_append.1 hu with hu | hu
  ·obtain ⟨_,_,_,_,_,_,_,_,_,_,rfl⟩:=tIz_cells h2;simp only [nzC,List.mem_cons,List.not_mem_nil,or_false] at hu;rcases hu with rfl | rfl | rfl | rfl | rfl | rfl <;> rfl
  ·exact tsIc_one' h3 u hu
theorem tsIc_len{q:Prop}{w:World}:∀ {l:List Tz} {css:List (List Value)},TsIc q w l css→css.length=l.length∧css.flatten.length=l.length * 6
 | [],_,h=>by unfold TsIc at h;subst h;exact ⟨rfl,rfl⟩
 | x :: l,_,h=>by
  unfold TsIc at h;obtain ⟨c,r,rfl,h2,h3⟩:=h;have:=tsIc_len h3;have:=six h2;rw [List.length_cons,List.length_cons,List.flatten_cons,List.length_append];omega
theorem resOpen{g:Nat}{n:Array Value}{W:World}(hN:Blk W g 26 n)(hs:some 6=some n.size)(tmps:Array Value)(h2:tmps.getD 2 undef = .pointer (some ⟨g,0,none⟩)) :
  (results Tryz.f12 tmps).run Tryz.prog W = .ok (.agg n) W:=by
 have h2':tmps[2]?.getD undef = .pointer (some ⟨g,0,none⟩):=by simpa using h2
 simp [results,show Tryz.f12.results = #[.cell 2 26] from rfl,h2',asAddr,run_loadVar_row W g 26 26 n (0,0) _ hN Tryz.underlying26 rfl (szNdo.trans hs)]
theorem own_cap'{w:World}{lo:Nat}{e:TypeId}{size n c:Nat}{A:Option Addr}{xs:List Value}(h:w.ownsRow lo e size (.slice A n c) n xs):n≤c∧c≤maxLen:=by
 rcases h.2 with ⟨h,h0⟩ | ⟨g,cap,cur,h,_,_,h1,h2,_⟩
 ·cases h;exact ⟨Nat.le_of_eq h0,by decide⟩
 ·cases h;exact ⟨h1,h2⟩
theorem open_(z:Tz)(hz:nbz z≤1099511627776)(w:World)(k a:Int)(s:Bs)(n:Nat)(A:Option Addr)(la cA:Nat)(B:Option Addr)(lb cB:Nat)(hT:TIc True w z (nzC k a s n A la cA B lb cB)) :
  Calls Tryz.prog 12 #[nzA k a s n A la cA B lb cB] w fun e w'=>∃ A' c',e = .returned (nzA k 0 [] 0 A' la c' none 0 0)∧TIc True w' (opz z) (nzC k 0 [] 0 A' la c' none 0 0)∧Below w.heap.size w w':=by
 obtain ⟨i0,hi,hzz⟩:=Option.map_eq_some_iff.1 infoNd';have hz0:=congrArg (·.1) hzz;have hz1:=congrArg (·.2.1) hzz;have hz2:=congrArg (·.2.2) hzz;have HI:=Hi hi;have HZ0:=Hi hz0;have HZ1:=Hi hz1;have HZ2:=Hi hz2;clear hi hzz hz0 hz1 hz2;obtain ⟨k1,a1,s1,n1,ps,l⟩:=z;obtain ⟨rfl,rfl,rfl,rfl,rfl,rfl,hl,hp,hB,css,hL,hS⟩:=tIz_parts hT;have hlm:l.length≤9223372036854775807:=hl;have hlz:l.length≤1099511627776:=by
  have h1:nbz (.mk k a s n ps l)=ps.length+1+nbzs l:=rfl;have h2:∀ l:List Tz,l.length≤nbzs l:=fun l=>by
   induction l with
   | nil=>exact Nat.zero_le _
   | cons x l ih=>
    obtain ⟨k,a,s,n,ps,l'⟩:=x;show l.length+1≤(ps.length+1+nbzs l')+nbzs l;omega
  have:=h2 l;omega
 obtain ⟨w1,hw1,hb1,hX1,hs1⟩:=a_box w (nB k a s n A l.length cA B ps.length cB);obtain ⟨w2,hw2,hb2,hX2,hs2⟩:=a_box w1 #[.int .i64 0,.string ⟨#[]⟩,.int .u32 0,.int .i64 0,.slice none 0 0,.slice none 0 0];rw [hs1] at hX2;have hb02:=hb1.trans (hb2.mono hb1.size);have HX1:=Hi (hX1.below hb2 hX1.lt);have HX2:=Hi hX2;have HB2:=Hi hb02;have HW1:=Hi hw1;have HW2:=Hi hw2;have HL:=Hi hL;have HS:=Hi hS;have HS2:=Hi (show w2.heap.size=w.heap.size+2 by omega);have hlt1:=HX1.out.lt;clear hT hB hL hS hl hp hz hw1 hb1 hX1 hs1 hw2 hb2 hX2 hs2 hb02;go_enter Tryz.func12,Tryz.ntmps12;go_upto_region 1 with fail
 rw [HW1.out,HW2.out]
 go_cut [3] from 5 to 11 (fun s3 wx=>∃ (g3:Nat) (A':Option Addr) (c':Nat),s3 = .pointer (some ⟨g3,0,none⟩)∧Hid (Blk wx g3 26 #[.int .i64 k,.string ⟨#[]⟩,.int .u32 0,.int .i64 0,.slice A' l.length c',.slice none 0 0])∧Hid (wx.ownsRow w2.heap.size 26 6 (.slice A' l.length c') l.length (opN 0 css).flatten)∧Hid (Below w2.heap.size w2 wx∧w2.heap.size≤g3∧(Value.slice A' l.length c').ownBlock≠some g3))
 case first=>as_aux_lemma=>
  have hdr:Below w2.heap.size w2 w2.drew:=Below.drew (Below.refl _ _);obtain ⟨wy,hwd⟩:∃ u,w2.drew=u:=⟨_,rfl⟩;rw [hwd] at hdr;have HYS:=Hi (show wy.heap.size=w2.heap.size from by rw [←hwd];rfl);have HDR:=Hi hdr;have HXY:=Hi (HX1.out.below hdr HX1.out.lt);have hby:Below wy.heap.size wy wy:=Below.refl _ _;clear hdr;go_wp2_with fail
  refine HT.wp_region (Z:=fun w'=>Below wy.heap.size wy w') (S:=fun _=>True) (st:=[]) (by kernel_rfl) ?_;rw [hwd];clear hwd;refine HT.tm 0 rfl hby HT.tr ?_;refine HT.tk 1 rfl (by intro v hSw;have hA:=HXY.out.below hSw HXY.out.lt;have E_:=Blk.c6 hA;clear hSw hA;go_simp;try with_reducible rfl) hby HT.tr ?_;refine HT.tm 3 rfl hby HT.tr ?_;refine HT.tk 4 rfl (by intro v hSw;have hA:=HXY.out.below hSw HXY.out.lt;have E_:=Blk.c6 hA;clear hSw hA;go_simp;try with_reducible rfl) hby HT.tr ?_;refine HT.two (i:=2) (j:=7) (by kernel_rfl) rfl rfl (fun K hK=>?_) (fun K hK=>?_)
  ·obtain ⟨W2,hW2⟩:∃ u,World.alloc wy (.cells #[] 26)=u:=⟨_,rfl⟩;go_simp;(try rw [hW2]);have hbl2:Below wy.heap.size wy W2:=by rw [←hW2];exact (Below.refl _ _).alloc (Nat.le_refl _) _
   have hb2:Below wy.heap.size wy W2:=hby.trans (hbl2.mono hby.size);have hq2:wy.heap.size≤wy.heap.size:=hby.size;obtain ⟨a2,ha2⟩:∃ b,wy.heap.size=b:=⟨_,rfl⟩;have HS2':=Hi (show W2.heap.size=a2+1 by rw [←hW2,←ha2];simp);have ho2:W2.ownsRow w2.heap.size 26 6 (.slice (some ⟨a2,0,none⟩) 0 0) 0 []:=by rw [←hW2,←ha2];exact own_empty' wy (by have:=HYS.out;omega) _ _
   (try rw [ha2]);(try dsimp only);refine hK.out _ _ hb2 trivial ?_;clear hK K;(try simp only [HT.pS]);refine HT.two (i:=5) (j:=7) (by kernel_rfl) rfl rfl (fun K hK=>?_) (fun K hK=>?_)
   ·have hLW:Lies W2 A css.flatten:=HL.out.below (HB2.out.trans ((HDR.out.trans (hb2.mono HDR.out.size)).mono HB2.out.size));refine step_any rfl _ _ 23 rfl w2.heap.size 26 i0 zAo 6 88 Tryz.underlying23 HI.out HZ0.out HZ1.out HZ2.out rfl (by decide) (.slice (some ⟨a2,0,none⟩) 0 0) 0 [] rfl ho2 A l.length cA css.flatten rfl (tsIc_len HS.out).2 hLW (tsIc_one' HS.out) (by unfold maxLen;omega) (by omega) (by have:=hb2.size;have:=HYS.out;omega) ?_;intro u5' W5 hown hgrow hat;rw [Nat.zero_add,List.nil_append] at hown;obtain ⟨A5,c5',rfl⟩:=own_sl hown;have hb5:Below wy.heap.size wy W5:=below_grown (b0:=a2) hb2 hgrow rfl (by omega);obtain ⟨z5',hz5⟩:∃ b,W2.heap.size=b:=⟨_,rfl⟩;rw [hz5] at hat;have hat':(Value.slice A5 l.length c5').ownBlock=some a2∨(Value.slice A5 l.length c5').ownBlock=some z5':=hat;have hlt5:=own_atV hown;(try dsimp only);refine hK.out _ _ hb5 trivial ?_;clear hK K;(try simp only [HT.pS]);refine HT.tm 6 rfl hb5 HT.tr ?_;obtain ⟨W7,hW7⟩:∃ u,World.alloc W5 (.cells #[.int .i64 0,.string ⟨#[]⟩,.int .u32 0,.int .i64 0,.slice none 0 0,.slice none 0 0] 26)=u:=⟨_,rfl⟩;refine HT.one (i:=7) (by kernel_rfl) rfl (fun K hK=>?_);go_simp;(try rw [hW7]);have hbl7:Below W5.heap.size W5 W7:=by rw [←hW7];exact (Below.refl _ _).alloc (Nat.le_refl _) _
    have hb7:Below wy.heap.size wy W7:=hb5.trans (hbl7.mono hb5.size);have hq7:wy.heap.size≤W5.heap.size:=hb5.size;obtain ⟨a7,ha7⟩:∃ b,W5.heap.size=b:=⟨_,rfl⟩;have HS7':=Hi (show W7.heap.size=a7+1 by rw [←hW7,←ha7];simp);have hk7:Blk W7 a7 26 #[.int .i64 0,.string ⟨#[]⟩,.int .u32 0,.int .i64 0,.slice none 0 0,.slice none 0 0]:=by rw [←hW7,←ha7];exact Blk.new _ _ _
    (try rw [ha7]);have hown_:=own_updV hown (Upd.of_below hbl7 fun _=>False) fun _ _ h=>h
    clear hown;have hown:=hown_;clear hown_;(try dsimp only);refine hK.out _ _ hb7 trivial ?_;clear hK K;(try simp only [HT.pS]);obtain ⟨⟨e0,e1,e2,e3,e4,e5⟩,z0,z1,z2,z3,z4,z5⟩:=Blk.c6 hk7;have hg7:=hk7.lt;refine HT.one (i:=8) (by kernel_rfl) rfl (fun K hK=>?_);go_simp;have hb8:Below wy.heap.size wy (put6 W7 a7 (.int .i64 k) (.string ⟨#[]⟩) (.int .u32 0) (.int .i64 0) (.slice A5 l.length c5') (.slice none 0 0)):=(put6_upd (X:=fun b=>b=a7) (Upd.of_below hb7 _) (fun _=>rfl) _ _ _ _ _ _).below (Nat.le_refl _) (fun b hb=>by omega);have hk8:=Blk.put6 hk7 (.int .i64 k) (.string ⟨#[]⟩) (.int .u32 0) (.int .i64 0) (.slice A5 l.length c5') (.slice none 0 0);have hne:(Value.slice A5 l.length c5').ownBlock≠some a7:=fun e=>by
     have h1:=HS2'.out;have h2:=HS7'.out;have h3:=(hlt5 a7 e).2;rcases hat' with h | h
     ·rw [h] at e;have:=Option.some.inj e;omega
     ·rw [h] at e;have:=Option.some.inj e;omega
    have ho8:=own_updV hown (put6_upd (X:=fun b=>b=a7) (Upd.refl _ W7) (fun _=>rfl) (.int .i64 k) (.string ⟨#[]⟩) (.int .u32 0) (.int .i64 0) (.slice A5 l.length c5') (.slice none 0 0)) fun b hb e=>hne (by rw [hb,e])
    have hlow:w2.heap.size≤a7:=by have:=HYS.out;omega
    have HE:=Hi (HDR.out.trans (hb8.mono HDR.out.size));have HK8:=Hi hk8;have HO8:=Hi ho8;(try dsimp only);refine hK.out _ _ hb8 trivial ?_;clear hK K;(try simp only [HT.pS]);refine HT.done (by kernel_rfl) ?_;clear hb8 hk8 ho8 e0 e1 e2 e3 e4 e5 z0 z1 z2 z3 z4 z5;go_wp2_with fail
    go_meet
    exact ⟨_,_,_,rfl,HK8,HO8,Hi ⟨HE.out,hlow,hne⟩⟩
   ·obtain ⟨W7,hW7⟩:∃ u,World.alloc W2 (.cells #[.int .i64 0,.string ⟨#[]⟩,.int .u32 0,.int .i64 0,.slice none 0 0,.slice none 0 0] 26)=u:=⟨_,rfl⟩;go_simp;(try rw [hW7]);have hbl7:Below W2.heap.size W2 W7:=by rw [←hW7];exact (Below.refl _ _).alloc (Nat.le_refl _) _
    have hb7:Below wy.heap.size wy W7:=hb2.trans (hbl7.mono hb2.size);have hq7:wy.heap.size≤W2.heap.size:=hb2.size;obtain ⟨a7,ha7⟩:∃ b,W2.heap.size=b:=⟨_,rfl⟩;have HS7':=Hi (show W7.heap.size=a7+1 by rw [←hW7,←ha7];simp);have hk7:Blk W7 a7 26 #[.int .i64 0,.string ⟨#[]⟩,.int .u32 0,.int .i64 0,.slice none 0 0,.slice none 0 0]:=by rw [←hW7,←ha7];exact Blk.new _ _ _
    (try rw [ha7]);have ho2_:=own_updV ho2 (Upd.of_below hbl7 fun _=>False) fun _ _ h=>h
    clear ho2;have ho2:=ho2_;clear ho2_;(try dsimp only);refine hK.out _ _ hb7 trivial ?_;clear hK K;(try simp only [HT.pS]);refine HT.one (i:=5) (by kernel_rfl) rfl (fun K hK=>?_);have hLW:Lies W7 A css.flatten:=HL.out.below (HB2.out.trans ((HDR.out.trans (hb7.mono HDR.out.size)).mono HB2.out.size));refine step_any rfl _ _ 23 rfl w2.heap.size 26 i0 zAo 6 88 Tryz.underlying23 HI.out HZ0.out HZ1.out HZ2.out rfl (by decide) (.slice (some ⟨a2,0,none⟩) 0 0) 0 [] rfl ho2 A l.length cA css.flatten rfl (tsIc_len HS.out).2 hLW (tsIc_one' HS.out) (by unfold maxLen;omega) (by omega) (by have:=hb7.size;have:=HYS.out;omega) ?_;intro u5' W5 hown hgrow hat;rw [Nat.zero_add,List.nil_append] at hown;obtain ⟨A5,c5',rfl⟩:=own_sl hown;have hb5:Below wy.heap.size wy W5:=below_grown (b0:=a2) hb7 hgrow rfl (by omega);obtain ⟨z5',hz5⟩:∃ b,W7.heap.size=b:=⟨_,rfl⟩;rw [hz5] at hat;have hat':(Value.slice A5 l.length c5').ownBlock=some a2∨(Value.slice A5 l.length c5').ownBlock=some z5':=hat;have hlt5:=own_atV hown;have hk7_:=hk7.upd ((Upd.refl (fun b=>b=a2) _).grown hgrow fun k hk _=>(Option.some.inj hk).symm) (by have h1:=HS2'.out;have h2:=HS7'.out;omega);clear hk7;have hk7:=hk7_;clear hk7_;(try dsimp only);refine hK.out _ _ hb5 trivial ?_;clear hK K;(try simp only [HT.pS]);refine HT.tm 6 rfl hb5 HT.tr ?_;obtain ⟨⟨e0,e1,e2,e3,e4,e5⟩,z0,z1,z2,z3,z4,z5⟩:=Blk.c6 hk7;have hg7:=hk7.lt;refine HT.one (i:=8) (by kernel_rfl) rfl (fun K hK=>?_);go_simp;have hb8:Below wy.heap.size wy (put6 W5 a7 (.int .i64 k) (.string ⟨#[]⟩) (.int .u32 0) (.int .i64 0) (.slice A5 l.length c5') (.slice none 0 0)):=(put6_upd (X:=fun b=>b=a7) (Upd.of_below hb5 _) (fun _=>rfl) _ _ _ _ _ _).below (Nat.le_refl _) (fun b hb=>by omega);have hk8:=Blk.put6 hk7 (.int .i64 k) (.string ⟨#[]⟩) (.int .u32 0) (.int .i64 0) (.slice A5 l.length c5') (.slice none 0 0);have hne:(Value.slice A5 l.length c5').ownBlock≠some a7:=fun e=>by
     have h1:=HS2'.out;have h2:=HS7'.out;have h3:=(hlt5 a7 e).2;rcases hat' with h | h
     ·rw [h] at e;have:=Option.some.inj e;omega
     ·rw [h] at e;have:=Option.some.inj e;omega
    have ho8:=own_updV hown (put6_upd (X:=fun b=>b=a7) (Upd.refl _ W5) (fun _=>rfl) (.int .i64 k) (.string ⟨#[]⟩) (.int .u32 0) (.int .i64 0) (.slice A5 l.length c5') (.slice none 0 0)) fun b hb e=>hne (by rw [hb,e])
    have hlow:w2.heap.size≤a7:=by have:=HYS.out;omega
    have HE:=Hi (HDR.out.trans (hb8.mono HDR.out.size));have HK8:=Hi hk8;have HO8:=Hi ho8;(try dsimp only);refine hK.out _ _ hb8 trivial ?_;clear hK K;(try simp only [HT.pS]);refine HT.done (by kernel_rfl) ?_;clear hb8 hk8 ho8 e0 e1 e2 e3 e4 e5 z0 z1 z2 z3 z4 z5;go_wp2_with fail
    go_meet
    exact ⟨_,_,_,rfl,HK8,HO8,Hi ⟨HE.out,hlow,hne⟩⟩
  ·obtain ⟨W7,hW7⟩:∃ u,World.alloc wy (.cells #[.int .i64 0,.string ⟨#[]⟩,.int .u32 0,.int .i64 0,.slice none 0 0,.slice none 0 0] 26)=u:=⟨_,rfl⟩;go_simp;(try rw [hW7]);have hbl7:Below wy.heap.size wy W7:=by rw [←hW7];exact (Below.refl _ _).alloc (Nat.le_refl _) _
   have hb7:Below wy.heap.size wy W7:=hby.trans (hbl7.mono hby.size);have hq7:wy.heap.size≤wy.heap.size:=hby.size;obtain ⟨a7,ha7⟩:∃ b,wy.heap.size=b:=⟨_,rfl⟩;have HS7':=Hi (show W7.heap.size=a7+1 by rw [←hW7,←ha7];simp);have hk7:Blk W7 a7 26 #[.int .i64 0,.string ⟨#[]⟩,.int .u32 0,.int .i64 0,.slice none 0 0,.slice none 0 0]:=by rw [←hW7,←ha7];exact Blk.new _ _ _
   (try rw [ha7]);(try dsimp only);refine hK.out _ _ hb7 trivial ?_;clear hK K;(try simp only [HT.pS]);obtain ⟨W2,hW2⟩:∃ u,World.alloc W7 (.cells #[] 26)=u:=⟨_,rfl⟩;refine HT.one (i:=2) (by kernel_rfl) rfl (fun K hK=>?_);go_simp;(try rw [hW2]);have hbl2:Below W7.heap.size W7 W2:=by rw [←hW2];exact (Below.refl _ _).alloc (Nat.le_refl _) _
   have hb2:Below wy.heap.size wy W2:=hb7.trans (hbl2.mono hb7.size);have hq2:wy.heap.size≤W7.heap.size:=hb7.size;obtain ⟨a2,ha2⟩:∃ b,W7.heap.size=b:=⟨_,rfl⟩;have HS2':=Hi (show W2.heap.size=a2+1 by rw [←hW2,←ha2];simp);have ho2:W2.ownsRow w2.heap.size 26 6 (.slice (some ⟨a2,0,none⟩) 0 0) 0 []:=by rw [←hW2,←ha2];exact own_empty' W7 (by have:=HYS.out;omega) _ _
   (try rw [ha2]);have hk7_:=hk7.below hbl2 (by have:=HS7'.out;omega);clear hk7;have hk7:=hk7_;clear hk7_;(try dsimp only);refine hK.out _ _ hb2 trivial ?_;clear hK K;(try simp only [HT.pS]);refine HT.one (i:=5) (by kernel_rfl) rfl (fun K hK=>?_);have hLW:Lies W2 A css.flatten:=HL.out.below (HB2.out.trans ((HDR.out.trans (hb2.mono HDR.out.size)).mono HB2.out.size));refine step_any rfl _ _ 23 rfl w2.heap.size 26 i0 zAo 6 88 Tryz.underlying23 HI.out HZ0.out HZ1.out HZ2.out rfl (by decide) (.slice (some ⟨a2,0,none⟩) 0 0) 0 [] rfl ho2 A l.length cA css.flatten rfl (tsIc_len HS.out).2 hLW (tsIc_one' HS.out) (by unfold maxLen;omega) (by omega) (by have:=hb2.size;have:=HYS.out;omega) ?_;intro u5' W5 hown hgrow hat;rw [Nat.zero_add,List.nil_append] at hown;obtain ⟨A5,c5',rfl⟩:=own_sl hown;have hb5:Below wy.heap.size wy W5:=below_grown (b0:=a2) hb2 hgrow rfl (by omega);obtain ⟨z5',hz5⟩:∃ b,W2.heap.size=b:=⟨_,rfl⟩;rw [hz5] at hat;have hat':(Value.slice A5 l.length c5').ownBlock=some a2∨(Value.slice A5 l.length c5').ownBlock=some z5':=hat;have hlt5:=own_atV hown;have hk7_:=hk7.upd ((Upd.refl (fun b=>b=a2) _).grown hgrow fun k hk _=>(Option.some.inj hk).symm) (by have h1:=HS2'.out;have h2:=HS7'.out;omega);clear hk7;have hk7:=hk7_;clear hk7_;(try dsimp only);refine hK.out _ _ hb5 trivial ?_;clear hK K;(try simp only [HT.pS]);refine HT.tm 6 rfl hb5 HT.tr ?_;obtain ⟨⟨e0,e1,e2,e3,e4,e5⟩,z0,z1,z2,z3,z4,z5⟩:=Blk.c6 hk7;have hg7:=hk7.lt;refine HT.one (i:=8) (by kernel_rfl) rfl (fun K hK=>?_);go_simp;have hb8:Below wy.heap.size wy (put6 W5 a7 (.int .i64 k) (.string ⟨#[]⟩) (.int .u32 0) (.int .i64 0) (.slice A5 l.length c5') (.slice none 0 0)):=(put6_upd (X:=fun b=>b=a7) (Upd.of_below hb5 _) (fun _=>rfl) _ _ _ _ _ _).below (Nat.le_refl _) (fun b hb=>by omega);have hk8:=Blk.put6 hk7 (.int .i64 k) (.string ⟨#[]⟩) (.int .u32 0) (.int .i64 0) (.slice A5 l.length c5') (.slice none 0 0);have hne:(Value.slice A5 l.length c5').ownBlock≠some a7:=fun e=>by
    have h1:=HS2'.out;have h2:=HS7'.out;have h3:=(hlt5 a7 e).2;rcases hat' with h | h
    ·rw [h] at e;have:=Option.some.inj e;omega
    ·rw [h] at e;have:=Option.some.inj e;omega
   have ho8:=own_updV hown (put6_upd (X:=fun b=>b=a7) (Upd.refl _ W5) (fun _=>rfl) (.int .i64 k) (.string ⟨#[]⟩) (.int .u32 0) (.int .i64 0) (.slice A5 l.length c5') (.slice none 0 0)) fun b hb e=>hne (by rw [hb,e])
   have hlow:w2.heap.size≤a7:=by have:=HYS.out;omega
   have HE:=Hi (HDR.out.trans (hb8.mono HDR.out.size));have HK8:=Hi hk8;have HO8:=Hi ho8;(try dsimp only);refine hK.out _ _ hb8 trivial ?_;clear hK K;(try simp only [HT.pS]);refine HT.done (by kernel_rfl) ?_;clear hb8 hk8 ho8 e0 e1 e2 e3 e4 e5 z0 z1 z2 z3 z4 z5;go_wp2_with fail
   go_meet
   exact ⟨_,_,_,rfl,HK8,HO8,Hi ⟨HE.out,hlow,hne⟩⟩
 case rest=>
  obtain ⟨g3,A',c',rfl,HK3,HO3,HB3⟩:=hcut;have HF:=Hi HB3.out.2;have H0:=Hi (show wc.ownsRow w2.heap.size 26 6 (.slice A' l.length c') l.length (opN 0 css).flatten∧Blk wc g3 26 #[.int .i64 k,.string ⟨#[]⟩,.int .u32 0,.int .i64 0,.slice A' l.length c',.slice none 0 0]∧Below w2.heap.size w2 wc from ⟨HO3.out,HK3.out,HB3.out.1⟩);clear HK3 HO3 HB3 hlt1;go_upto_region 3 with fail
  go_loopw [4] (fun vi wr=>∃ i:Nat,i≤l.length∧vi = .int .i64 (i:Int)∧Hid (wr.ownsRow w2.heap.size 26 6 (.slice A' l.length c') l.length (opN i css).flatten∧Blk wr g3 26 #[.int .i64 k,.string ⟨#[]⟩,.int .u32 0,.int .i64 0,.slice A' l.length c',.slice none 0 0]∧Below w2.heap.size w2 wr)) (fun vi _=>l.length - (intOf vi).toNat)
  case atStart=>exact ⟨0,by omega,rfl,H0⟩
  case round=>
   clear H0;obtain ⟨i,hi,rfl,Hr⟩:=hrel;have hg3:=Hr.out.2.1.lt;obtain ⟨⟨e0,e1,e2,e3,e4,e5⟩,z0,z1,z2,z3,z4,z5⟩:=Blk.c6 Hr.out.2.1;by_cases hlt:i < l.length
   ·obtain ⟨x,hx⟩:∃ x,l[i]?=some x:=⟨_,List.getElem?_eq_getElem hlt⟩;have hil:(i:Int) < (l.length:Int):=by omega
    obtain ⟨k1,a1,s1,n1,A1,la1,cA1,B1,lb1,cB1,q1,q2,q3,q4,q5⟩:=opN_at i x HS.out hx;obtain ⟨g5,rfl⟩:∃ g5,A'=some ⟨g5,0,none⟩:=by
     rcases Hr.out.1.2 with ⟨_,h0⟩ | ⟨g,cap,cur,h,_⟩
     ·omega
     ·cases h;exact ⟨g,rfl⟩
    obtain ⟨cur,hcur,hcs,hcc⟩:=own_blk Hr.out.1;have hg5:=hcur.lt;have hne:g3≠g5:=fun e=>HF.out.2 (by rw [e];rfl)
    have hge:=(own_atV Hr.out.1 g5 rfl).1;obtain ⟨b,o,he,_,hc⟩:=(lies_own Hr.out.1).at_ q1;have c6:=hc _ _ q1;obtain ⟨rfl,rfl⟩:g5=b∧0=o:=by cases he;exact ⟨rfl,rfl⟩
    rw [Nat.zero_add] at c6;have fz:=hcur.frozen (i * 6);by_cases hk:k1 = 6
    ·have hb:(k1==6)=true:=by simp [hk]
     have H3:=Hi (show (wr.setCell ⟨g5,i * 6,none⟩ (.int .i64 7)).ownsRow w2.heap.size 26 6 (.slice (some ⟨g5,0,none⟩) l.length c') l.length (opN (i+1) css).flatten∧Blk (wr.setCell ⟨g5,i * 6,none⟩ (.int .i64 7)) g3 26 #[.int .i64 k,.string ⟨#[]⟩,.int .u32 0,.int .i64 0,.slice (some ⟨g5,0,none⟩) l.length c',.slice none 0 0]∧Below w2.heap.size w2 (wr.setCell ⟨g5,i * 6,none⟩ (.int .i64 7)) from
      ⟨by rw [(q3 hk).2];exact own_set Hr.out.1 (i * 6) (by omega) _,Hr.out.2.1.far (p:=⟨g5,i * 6,none⟩) hne _,Hr.out.2.2.setCell (p:=⟨g5,i * 6,none⟩) hge _⟩)
     clear q1 q2 q3 q4 q5 hcur hcs hcc he hc hx hk;go_wp2_with fail
     go_roundw
     case rel=>exact ⟨i+1,by omega,by go_num,H3⟩
     case measure=>simp [intOf];omega
    ·have hb:(k1==6)=false:=by simp [hk]
     have H3:=Hi (show wr.ownsRow w2.heap.size 26 6 (.slice (some ⟨g5,0,none⟩) l.length c') l.length (opN (i+1) css).flatten∧Blk wr g3 26 #[.int .i64 k,.string ⟨#[]⟩,.int .u32 0,.int .i64 0,.slice (some ⟨g5,0,none⟩) l.length c',.slice none 0 0]∧Below w2.heap.size w2 wr from by
      rw [q4 hk];exact Hr.out)
     clear q1 q2 q3 q4 q5 hcur hcs hcc he hc hx;go_wp2_with fail
     go_roundw
     case rel=>exact ⟨i+1,by omega,by go_num,H3⟩
     case measure=>simp [intOf];omega
   ·obtain rfl:i=l.length:=by omega
    have hcl:=tsIc_len HS.out;have ho:=Hr.out.1;rw [opN_all (by omega)] at ho;have hX2:=HX2.out.below Hr.out.2.2 (by have:=HS2.out;omega);obtain ⟨⟨g0,g1,g2,g3',g4,g5'⟩,y0,y1,y2,y3,y4,y5⟩:=Blk.c6 hX2;have hlt2:=hX2.lt;have hput:=Blk.put6 hX2 (.int .i64 k) (.string ⟨#[]⟩) (.int .u32 0) (.int .i64 0) (.slice A' l.length c') (.slice none 0 0);have hup:=put6_upd (X:=fun b=>b=w.heap.size+1) (Upd.refl _ wr) (fun _=>rfl) (.int .i64 k) (.string ⟨#[]⟩) (.int .u32 0) (.int .i64 0) (.slice A' l.length c') (.slice none 0 0);have hoe:=own_updV ho hup fun b hb e=>by have:=(own_atV ho b hb).1;have:=HS2.out;omega
    have hbw:Below w.heap.size w (put6 wr (w.heap.size+1) (.int .i64 k) (.string ⟨#[]⟩) (.int .u32 0) (.int .i64 0) (.slice A' l.length c') (.slice none 0 0)):=
     (HB2.out.trans (Hr.out.2.2.mono HB2.out.size)).trans ((hup.below (B:=w.heap.size) (by have:=HB2.out.size;have:=Hr.out.2.2.size;omega) fun b hb=>by omega))
    have HPUT:=Hi hput;have HRES:=Hi (show TIc True (put6 wr (w.heap.size+1) (.int .i64 k) (.string ⟨#[]⟩) (.int .u32 0) (.int .i64 0) (.slice A' l.length c') (.slice none 0 0)) (opz (.mk k a s n ps l)) (nzC k 0 [] 0 A' l.length c' none 0 0) from by
     show TIc True _ (.mk k 0 [] 0 [] (l.map opT)) _;unfold TIc;exact ⟨A',c',none,0,by rw [List.length_map];rfl,by rw [List.length_map];exact hlm,Nat.zero_le _,Lies.nil _ _,css.map opC,lies_own hoe,opT_cs (TsIz.below hbw HS.out),fun _=>⟨by rw [List.length_map];exact own_cap' hoe,Nat.le_refl _,Nat.zero_le _⟩⟩)
    have HBW:=Hi hbw;clear hcl ho hX2 hput hup hoe hbw;go_wp2_with fail
    exact bodyPost_ret (v:=nzA k 0 [] 0 A' l.length c' none 0 0) (resOpen HPUT.out rfl _ rfl) rfl ⟨A',c',rfl,HRES.out,HBW.out⟩
end Go.Proofs.YtcgibpdjfgjldaaGreatDoor.Fl
namespace Go.Proofs.YtcgibpdjfgjldaaGreatDoor.Pa
open Lx
section
variable {num : Bs → Nat × Nat}
def Ev(K:Nat→OO)(o:Out):Prop:=∃ g,∀ f,g≤f→K f=some o
def Rd(num:Bs→Nat×Nat)(nt:NT)(d:Nat)(l:List Tk)(o:Out):Prop:=Ev (fun f=>pF num f nt d l) o
theorem Rd.at_{nt:NT}{d:Nat}{l:List Tk}{o:Out}(h:Rd num nt d l o):∃ f,pF num f nt d l=some o:=by
 obtain ⟨g,hg⟩:=h;exact ⟨g,hg g (Nat.le_refl _)⟩
theorem Rd.one{nt:NT}{d:Nat}{l:List Tk}{o o':Out}(h:Rd num nt d l o)(h':Rd num nt d l o'):o=o':=by
 obtain ⟨f,hf⟩:=h.at_;obtain ⟨g,hg⟩:=h'.at_;exact pF_one hf hg
theorem ev_now(o:Out):Ev (fun _=>some o) o:=⟨0,fun _ _=>rfl⟩
theorem ev_bnd{A:Nat→OO}{K:Nat→List Tr→List Tk→OO}{xs:List Tr}{r:List Tk}{o:Out}(h:Ev A (.ok xs r))(h2:Ev (fun f=>K f xs r) o):Ev (fun f=>bnd (A f) (K f)) o:=by
 obtain ⟨a,ha⟩:=h;obtain ⟨b,hb⟩:=h2;refine ⟨max a b,fun f hf=>?_⟩;show bnd (A f) (K f)=_;rw [ha f (Nat.le_trans (Nat.le_max_left _ _) hf)];exact hb f (Nat.le_trans (Nat.le_max_right _ _) hf)
theorem ev_bad{A:Nat→OO}{K:Nat→List Tr→List Tk→OO}{a e:Nat}(h:Ev A (.bad a e)):Ev (fun f=>bnd (A f) (K f)) (.bad a e):=by
 obtain ⟨g,hg⟩:=h;refine ⟨g,fun f hf=>?_⟩;show bnd (A f) (K f)=_;rw [hg f hf];rfl
theorem rd_eq{nt:NT}{d:Nat}{l:List Tk}{o:Out}{K:Nat→OO}(h:Ev K o)(he:∀ f,pF num (f+1) nt d l=K f):Rd num nt d l o:=by
 obtain ⟨g,hg⟩:=h;refine ⟨g+1,fun f hf=>?_⟩;obtain ⟨k,rfl⟩:∃ k,f=k+1:=⟨f - 1,by omega⟩;show pF num (k+1) nt d l=_;rw [he];exact hg k (by omega)
theorem r_lev{n d:Nat}{l r:List Tk}{xs:List Tr}{o:Out}(hn:n < 5)(h:Rd num (.lev (n+1)) d l (.ok xs r))(h2:Rd num (.more n (hd xs)) d r o):Rd num (.lev n) d l o:=
 rd_eq (ev_bnd (K:=fun f xs r=>pF num f (.more n (hd xs)) d r) h h2) fun f=>by
  conv=>lhs;unfold pF
  rw [if_pos hn]
theorem r_lev_bad{n d a e:Nat}{l:List Tk}(hn:n < 5)(h:Rd num (.lev (n+1)) d l (.bad a e)):Rd num (.lev n) d l (.bad a e):=
 rd_eq (ev_bad (K:=fun f xs r=>pF num f (.more n (hd xs)) d r) h) fun f=>by
  conv=>lhs;unfold pF
  rw [if_pos hn]
theorem r_stop{n d:Nat}{l:List Tk}{x:Tr}(h:∀ t r,l=t :: r→onS n t=false):Rd num (.more n x) d l (.ok [x] l):=
 rd_eq (ev_now _) fun f=>by
  cases l with
  | nil=>rfl
  | cons t r=>
   conv=>lhs;unfold pF
   simp only;rw [if_neg (by rw [h t r rfl];decide)]
def bin(n:Nat)(x:Tr)(s:Bs)(ys:List Tr):Tr:=.mk (if n = 3 then 4 else 3) x.place s 0 [] (x :: ys)
theorem r_go{n d:Nat}{t:Tk}{r r':List Tk}{x:Tr}{ys:List Tr}{o:Out}(ht:onS n t=true)(h:Rd num (.lev (n+1)) d r (.ok ys r'))(h2:Rd num (.more n (bin n x t.s ys)) d r' o):Rd num (.more n x) d (t :: r) o:=
 rd_eq (ev_bnd (K:=fun f ys r'=>pF num f (.more n (bin n x t.s ys)) d r') h h2) fun f=>by
  conv=>lhs;unfold pF
  simp only;rw [if_pos ht];rfl
theorem r_go_bad{n d a e:Nat}{t:Tk}{r:List Tk}{x:Tr}(ht:onS n t=true)(h:Rd num (.lev (n+1)) d r (.bad a e)):Rd num (.more n x) d (t :: r) (.bad a e):=
 rd_eq (ev_bad (K:=fun f ys r'=>pF num f (.more n (bin n x t.s ys)) d r') h) fun f=>by
  conv=>lhs;unfold pF
  simp only;rw [if_pos ht];rfl
def Stp(n:Nat)(l:List Tk):Prop:=∀ t r,l=t :: r→∀ m,n≤m→m < 5→onS m t=false
theorem lev_stp:∀ (f:Nat),(∀ (n d:Nat) (l r:List Tk) (xs:List Tr),pF num f (.lev n) d l=some (.ok xs r)→Stp n r) ∧
  (∀ (n:Nat) (x:Tr) (d:Nat) (l r:List Tk) (xs:List Tr),Stp (n+1) l→pF num f (.more n x) d l=some (.ok xs r)→Stp n r):=by
 intro f
 induction f with
 | zero=>exact ⟨fun n d l r xs h=>(by cases h),fun n x d l r xs _ h=>(by cases h)⟩
 | succ f ih=>
  refine ⟨fun n d l r xs h=>?_,fun n x d l r xs hs h=>?_⟩
  ·by_cases hn:n < 5
   ·unfold pF at h;rw [if_pos hn] at h;rcases h1:pF num f (.lev (n+1)) d l with _ | ⟨ys,r1⟩ | ⟨a,e⟩
    ·rw [h1] at h;cases h
    ·rw [h1] at h;exact ih.2 n _ d r1 r xs (ih.1 _ _ _ _ _ h1) h
    ·rw [h1] at h;cases h
   ·intro t r' _ m h1 h2;omega
  ·cases l with
   | nil=>
    unfold pF at h;simp only [Option.some.injEq,Out.ok.injEq] at h;obtain ⟨_,rfl⟩:=h;intro t r' h;cases h
   | cons t r0=>
    unfold pF at h;simp only at h;by_cases ht:onS n t=true
    ·rw [if_pos ht] at h;rcases h1:pF num f (.lev (n+1)) d r0 with _ | ⟨ys,r1⟩ | ⟨a,e⟩
     ·rw [h1] at h;cases h
     ·rw [h1] at h;exact ih.2 n _ d r1 r xs (ih.1 _ _ _ _ _ h1) h
     ·rw [h1] at h;cases h
    ·rw [if_neg ht] at h;simp only [Option.some.injEq,Out.ok.injEq] at h;obtain ⟨_,rfl⟩:=h;intro t' r' e m h1 h2;cases e;by_cases hm:m=n
     ·subst hm;simpa using ht
     ·exact hs t r0 rfl m (by omega) h2
theorem Rd.stp{n d:Nat}{l r:List Tk}{xs:List Tr}(h:Rd num (.lev n) d l (.ok xs r)):Stp n r:=by
 obtain ⟨f,hf⟩:=h.at_;exact (lev_stp f).1 _ _ _ _ _ hf
def Ch(num:Bs→Nat×Nat)(j d:Nat):Nat→Tr→List Tk→Out→Prop
 | 0,x,r,o=>o = .ok [x] r
 | m+1,x,r,o=>(∃ y r',Rd num (.more (j+m) x) d r (.ok [y] r')∧Ch num j d m y r' o)∨(∃ a e,Rd num (.more (j+m) x) d r (.bad a e)∧o = .bad a e)
theorem ch_lev{j d:Nat}{l:List Tk}{o:Out}:∀ (m:Nat) (x:Tr) (r:List Tk),j+m≤5→Rd num (.lev (j+m)) d l (.ok [x] r)→Ch num j d m x r o→Rd num (.lev j) d l o
 | 0,x,r,_,h,hc=>by
  have:o = .ok [x] r:=hc;subst this;exact h
 | m+1,x,r,hm,h,hc=>by
  rcases hc with ⟨y,r',h1,h2⟩ | ⟨a,e,h1,rfl⟩
  ·exact ch_lev m y r' (by omega) (r_lev (by omega) h h1) h2
  ·have h3:Rd num (.lev (j+m)) d l (.bad a e):=r_lev (by omega) h h1;clear h h1
   induction m with
   | zero=>exact h3
   | succ m ih=>exact ih (by omega) (r_lev_bad (by omega) h3)
theorem more_none{n d:Nat}{x:Tr}{r:List Tk}{o:Out}(h:∀ t r',r=t :: r'→onS n t=false)(hr:Rd num (.more n x) d r o):o = .ok [x] r:=hr.one (r_stop h)
theorem ch_down{j d:Nat}{o:Out}{x:Tr}{r:List Tk}:∀ (m n:Nat),n≤m→j+m≤5→(∀ t r',r=t :: r'→∀ i,j+n≤i→i < 5→onS i t=false)→(Ch num j d m x r o↔Ch num j d n x r o)
 | 0,n,hn,_,_=>by
  obtain rfl:n = 0:=by omega
  exact Iff.rfl
 | m+1,n,hn,hm,h=>by
  by_cases e:n=m+1
  ·subst e;exact Iff.rfl
  ·refine Iff.trans ?_ (ch_down m n (by omega) (by omega) h);have hs:∀ t r',r=t :: r'→onS (j+m) t=false:=fun t r' e=>h t r' e _ (by omega) (by omega)
   constructor
   ·rintro (⟨y,r',h1,h2⟩ | ⟨a,e,h1,_⟩)
    ·have:=more_none hs h1;simp only [Out.ok.injEq,List.cons.injEq,and_true] at this;obtain ⟨rfl,rfl⟩:=this;exact h2
    ·have:=more_none hs h1;cases this
   ·intro h2;exact .inl ⟨x,r,r_stop hs,h2⟩
theorem ch_sign{j d m q:Nat}{o:Out}{x:Tr}{t:Tk}{r r':List Tk}{ys:List Tr}(hm:j+m = 5)(hq:j≤q)(hq5:q < 5)(ht:∀ i,i < 5→onS i t=decide (i=q))(h1:Rd num (.lev (q+1)) d r (.ok ys r'))
  (h2:Ch num j d m (bin q x t.s ys) r' o):Ch num j d m x (t :: r) o:=by
 obtain ⟨k,rfl⟩:∃ k,q=j+k:=⟨q - j,by omega⟩;refine (ch_down m (k+1) (by omega) (by omega) fun t' r0 e i hi h5=>?_).2 ?_
 ·cases e;rw [ht i h5];simp;omega
 ·have hstp:=h1.stp;have h3:=(ch_down m (k+1) (by omega) (by omega) fun t' r0 e i hi h5=>hstp t' r0 e i (by omega) h5).1 h2;have hon:onS (j+k) t=true:=by rw [ht _ hq5];simp
  rcases h3 with ⟨y,r2,h4,h5⟩ | ⟨a,e,h4,rfl⟩
  ·exact .inl ⟨y,r2,r_go hon h1 h4,h5⟩
  ·exact .inr ⟨a,e,r_go hon h1 h4,rfl⟩
theorem ch_sign_bad{j d m q a e:Nat}{x:Tr}{t:Tk}{r:List Tk}(hm:j+m = 5)(hq:j≤q)(hq5:q < 5)(ht:∀ i,i < 5→onS i t=decide (i=q))(h1:Rd num (.lev (q+1)) d r (.bad a e)) :
  Ch num j d m x (t :: r) (.bad a e):=by
 obtain ⟨k,rfl⟩:∃ k,q=j+k:=⟨q - j,by omega⟩;refine (ch_down m (k+1) (by omega) (by omega) fun t' r0 e i hi h5=>?_).2 ?_
 ·cases e;rw [ht i h5];simp;omega
 ·exact .inr ⟨a,e,r_go_bad (by rw [ht _ hq5];simp) h1,rfl⟩
theorem ch_end{j d m:Nat}{x:Tr}{r:List Tk}(hm:j+m≤5)(h:∀ t r',r=t :: r'→∀ i,j≤i→i < 5→onS i t=false):Ch num j d m x r (.ok [x] r):=
 (ch_down m 0 (by omega) hm (by simpa using h)).2 rfl
end
end Go.Proofs.YtcgibpdjfgjldaaGreatDoor.Pa
