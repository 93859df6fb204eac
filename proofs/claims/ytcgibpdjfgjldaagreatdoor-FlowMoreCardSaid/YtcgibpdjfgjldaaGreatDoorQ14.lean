/- DERIVED. RqSt, RqSm, RqMu, RqNum, RqNd. By an AI agent. -/
import Derived.Test.YtcgibpdjfgjldaaGreatDoorQ01
import Derived.Test.YtcgibpdjfgjldaaGreatDoorQ05
import Derived.Test.YtcgibpdjfgjldaaGreatDoorQ12
import Derived.StillTailTactics
import Derived.Deep.DeepCutAuto
import Derived.WalkSmall
set_option maxRecDepth 100000
set_option maxHeartbeats 3200000
set_option linter.unusedVariables false
set_option linter.unusedSimpArgs false
namespace Go.Proofs.YtcgibpdjfgjldaaGreatDoor.Pq
open Go Go.ChangeShapes Go.WideShapes Go.ChangeAt Go.RowKit Lx Args Pa
section
attribute [local go_sem] fTk0 fTk1 fTk2
theorem fTk0(k a:Int)(s:ByteArray)(w:World):(Instr.field 63 (.agg #[.int .i64 k,.string s,.int .i64 a]) 0).run Tryz.prog w = .ok (.int .i64 k) w:=by kernel_rfl
theorem fTk1(k a:Int)(s:ByteArray)(w:World):(Instr.field 63 (.agg #[.int .i64 k,.string s,.int .i64 a]) 1).run Tryz.prog w = .ok (.string s) w:=by kernel_rfl
theorem fTk2(k a:Int)(s:ByteArray)(w:World):(Instr.field 63 (.agg #[.int .i64 k,.string s,.int .i64 a]) 2).run Tryz.prog w = .ok (.int .i64 a) w:=by kernel_rfl
theorem Blk.c4{w:World}{g:Nat}{t:TypeId}{a b c d:Value}(h:Blk w g t #[a,b,c,d]):w.cell? ⟨g,0,none⟩=some a∧w.cell? ⟨g,1,none⟩=some b∧w.cell? ⟨g,2,none⟩=some c∧w.cell? ⟨g,3,none⟩=some d∧w.frozen? ⟨g,0,none⟩=false∧w.frozen? ⟨g,1,none⟩=false∧w.frozen? ⟨g,2,none⟩=false∧w.frozen? ⟨g,3,none⟩=false:=
 ⟨h.cell 0,h.cell 1,h.cell 2,h.cell 3,h.frozen 0,h.frozen 1,h.frozen 2,h.frozen 3⟩
structure QS(w:World)(bp:Nat)(l:List Tk)(ba wy:Nat):Prop where
 ex:∃ b o c,∃ pre:List Tk,b < bp∧Blk w bp 60 #[.slice (some ⟨b,o,none⟩) (pre.length+l.length) c,.int .i64 (pre.length:Int),.int .i64 (ba:Int),.int .i64 (wy:Int)] ∧
  Lies w (some ⟨b,o,none⟩) ((pre ++ l).flatMap tkC)∧pre.length+l.length≤4000
theorem QS.lt{w:World}{bp ba wy:Nat}{l:List Tk}(h:QS w bp l ba wy):bp < w.heap.size:=by
 obtain ⟨b,o,c,pre,_,hb,_⟩:=h;exact hb.lt
theorem QS.below{w w':World}{bp ba wy:Nat}{l:List Tk}(h:QS w bp l ba wy)(hb:Below w.heap.size w w'):QS w' bp l ba wy:=by
 obtain ⟨b,o,c,pre,hn,h1,h2,h3⟩:=h;exact ⟨b,o,c,pre,hn,h1.below hb h1.lt,h2.below hb,h3⟩
theorem QS.far{X:Nat→Prop}{w w':World}{bp ba wy:Nat}{l:List Tk}(h:QS w bp l ba wy)(hu:Upd X w w')(hX:∀ b,X b→bp < b):QS w' bp l ba wy:=by
 obtain ⟨b,o,c,pre,hn,h1,h2,h3⟩:=h;exact ⟨b,o,c,pre,hn,h1.upd hu fun hx=>by have:=hX bp hx;omega,hu.lies h2 fun b' o' e _ hx=>by cases e;have:=hX _ hx;omega,h3⟩
theorem flat_len(l:List Tk):(l.flatMap tkC).length=l.length * 3:=by
 induction l with
 | nil=>rfl
 | cons t l ih=>rw [List.flatMap_cons,List.length_append,ih,List.length_cons];show 3+_=_;omega
theorem flat_at(pre:List Tk)(t:Tk)(r:List Tk)(j:Nat)(hj:j < 3):((pre ++ t :: r).flatMap tkC)[pre.length * 3+j]?=(tkC t)[j]?:=by
 rw [List.flatMap_append,List.getElem?_append_right (by rw [flat_len];omega),flat_len,show pre.length * 3+j - pre.length * 3=j by omega,List.flatMap_cons,List.getElem?_append_left (by show j < 3;exact hj)]
theorem QS.head{w:World}{bp ba wy:Nat}{t:Tk}{r:List Tk}(h:QS w bp (t :: r) ba wy):∃ b o c n,b < bp∧n+(r.length+1)≤4000∧0≤c∧0≤c ∧
  (w.cell? ⟨bp,0,none⟩=some (.slice (some ⟨b,o,none⟩) (n+(r.length+1)) c)∧w.cell? ⟨bp,1,none⟩=some (.int .i64 (n:Int))∧w.cell? ⟨bp,2,none⟩=some (.int .i64 (ba:Int))∧w.cell? ⟨bp,3,none⟩=some (.int .i64 (wy:Int))) ∧
  (w.frozen? ⟨bp,0,none⟩=false∧w.frozen? ⟨bp,1,none⟩=false∧w.frozen? ⟨bp,2,none⟩=false∧w.frozen? ⟨bp,3,none⟩=false) ∧
  w.cell? ⟨b,o+n * 3,none⟩=some (.int .i64 (t.k:Int))∧w.cell? ⟨b,o+n * 3+1,none⟩=some (.string ⟨t.s.toArray⟩)∧w.cell? ⟨b,o+n * 3+2,none⟩=some (.int .i64 (t.at_:Int)):=by
 obtain ⟨b,o,c,pre,hn,h1,h2,h5⟩:=h;have f0:=h2 (pre.length * 3+0) _ ((flat_at pre t r 0 (by decide)).trans rfl);have f1:=h2 (pre.length * 3+1) _ ((flat_at pre t r 1 (by decide)).trans rfl);have f2:=h2 (pre.length * 3+2) _ ((flat_at pre t r 2 (by decide)).trans rfl);obtain ⟨a0,e0,f0⟩:=f0;obtain ⟨a1,e1,f1⟩:=f1;obtain ⟨a2,e2,f2⟩:=f2;cases e0;cases e1;cases e2;rw [Args.add_plain] at f0 f1 f2;rw [←Nat.add_assoc] at f0 f1 f2;exact ⟨b,o,c,pre.length,hn,h5,Nat.zero_le _,Nat.zero_le _,⟨h1.cell 0,h1.cell 1,h1.cell 2,h1.cell 3⟩,⟨h1.frozen 0,h1.frozen 1,h1.frozen 2,h1.frozen 3⟩,f0,f1,f2⟩
theorem QS.wrong{w:World}{bp ba wy:Nat}{l:List Tk}(h:QS w bp l ba wy)(ba' wy':Nat):QS ((w.setCell ⟨bp,2,none⟩ (.int .i64 (ba':Int))).setCell ⟨bp,3,none⟩ (.int .i64 (wy':Int))) bp l ba' wy':=by
 obtain ⟨b,o,c,pre,hn,h1,h2,h3⟩:=h;refine ⟨b,o,c,pre,hn,(h1.set 2 _).set 3 _,?_,h3⟩;exact (((Upd.refl (fun b=>b=bp) w).setCell (fun _=>rfl) _).setCell (fun _=>rfl) _).lies h2 fun b' o' e _ hx=>by cases e;omega
theorem QS.on{w:World}{bp ba wy n:Nat}{t:Tk}{r:List Tk}(h:QS w bp (t :: r) ba wy)(hn:w.cell? ⟨bp,1,none⟩=some (.int .i64 (n:Int))):QS (w.setCell ⟨bp,1,none⟩ (.int .i64 ((n:Int)+1))) bp r ba wy:=by
 obtain ⟨b,o,c,pre,hb,h1,h2,h5⟩:=h;have e:=h1.cell 1;rw [hn] at e;have e2:n=pre.length:=by simp at e;omega
 subst e2;refine ⟨b,o,c,pre ++ [t],hb,?_,?_,by simp at h5 ⊢;omega⟩
 ·have:=h1.set 1 (.int .i64 ((pre.length:Int)+1));have e3:(pre ++ [t]).length+r.length=pre.length+(t :: r).length:=by simp;omega
  have e4:(((pre ++ [t]).length:Nat):Int)=(pre.length:Int)+1:=by simp
  rw [e3,e4];exact this
 ·rw [List.append_assoc];exact ((Upd.refl (fun b=>b=bp) w).setCell (fun _=>rfl) _).lies h2 fun b' o' e _ hx=>by cases e;omega
theorem tok(w:World)(bp ba wy:Nat)(t:Tk)(r:List Tk)(hp:QS w bp (t :: r) ba wy) :
  Calls Tryz.prog 25 #[.pointer (some ⟨bp,0,none⟩)] w fun e w'=>e = .returned (.agg #[.int .i64 (t.k:Int),.string ⟨t.s.toArray⟩,.int .i64 (t.at_:Int)])∧Below w.heap.size w w':=by
 obtain ⟨w0,hw0⟩:∃ w0,w.alloc (.cells #[.int .i64 0,.string ⟨#[]⟩,.int .i64 0] 63)=w0:=⟨_,rfl⟩;have hb0:Below w.heap.size w w0:=by rw [←hw0];exact (Below.refl _ _).alloc (Nat.le_refl _) _
 have hB:Blk w0 w.heap.size 63 #[.int .i64 0,.string ⟨#[]⟩,.int .i64 0]:=by rw [←hw0];exact Blk.new _ _ _
 obtain ⟨b,o,c,n,hn,hl,hc,hm,⟨c0,c1,c2,c3⟩,⟨z0,z1,z2,z3⟩,f4,f5,f6⟩:=(hp.below hb0).head;have hlt:=(hp.below hb0).lt;have hbl:b < w0.heap.size:=World.block_lt_of_cell? w0 _ f4;have hix:(n:Int) < (n:Int)+((r.length:Int)+1):=by omega
 have HN:=Hi hn;have HB0:=Hi hb0;have HB:=Hi hB;have HW:=Hi hw0;clear hn hp hb0 hB hw0;go_enter Tryz.func25,Tryz.ntmps25;go_wp2_with fail
 rw [HW.out]
 go_still_tail 10,(by kernel_rfl)
 change wpList _ _ _ _ _ w0.drew;have hdr:Below w0.heap.size w0 w0.drew:=below_drewN (Below.refl _ _) 1;have hB1:Blk w0.drew w.heap.size 63 #[.int .i64 0,.string ⟨#[]⟩,.int .i64 0]:=HB.out.below hdr HB.out.lt;have hb1:=HB0.out.trans (hdr.mono HB0.out.size);generalize w0.drew=w1 at hdr hB1 hb1 ⊢;clear c0 c1 c2 c3 z0 z1 z2 z3 f4 f5 f6 hdr;obtain ⟨e0,e1,e2,y0,y1,y2⟩:=Blk.c3 hB1;have H1:=Hi hB1;have HB1:=Hi hb1;clear hB1 hb1;go_wp2_with fail
 refine bodyPost_ret (resTk rfl rfl (Blk.put3 H1.out _ _ _) rfl) rfl ⟨rfl,?_⟩;exact ((HB1.out.setCell (Nat.le_refl _) _).setCell (Nat.le_refl _) _).setCell (Nat.le_refl _) _
end
section
attribute [local go_sem] fTk0 fTk1 fTk2
abbrev vd:Ending:=.returned (.tuple #[])
theorem bad_no(w:World)(bp ba wy er:Nat)(b:Bool)(t:Tk)(r:List Tk)(hp:QS w bp (t :: r) ba wy)(hb:b=false∨wy≠0) :
  Calls Tryz.prog 58 #[.pointer (some ⟨bp,0,none⟩),.bool b,.int .i64 (er:Int)] w fun e w'=>e=vd∧w=w':=by
 obtain ⟨b',o,c,n,hn,hl,hc,hm,⟨c0,c1,c2,c3⟩,⟨z0,z1,z2,z3⟩,f4,f5,f6⟩:=hp.head;have hlt:=hp.lt;have HN:=Hi hn;clear hn hp;rcases hb with rfl | hb
 ·go_enter Tryz.func58,Tryz.ntmps58;go_wp2_with fail
  first | go_end0 | skip
  all_goals first | exact ⟨rfl,rfl⟩ | refine bodyPost_ret (results_none rfl _ _ _) rfl ⟨rfl,rfl⟩
 ·have hz:((wy:Int)==0)=false:=by simp;omega
  cases b
  all_goals
   go_enter Tryz.func58,Tryz.ntmps58;go_wp2_with fail
   first | go_end0 | skip
   all_goals first | exact ⟨rfl,rfl⟩ | refine bodyPost_ret (results_none rfl _ _ _) rfl ⟨rfl,rfl⟩
theorem bad_yes(w:World)(bp er:Nat)(t:Tk)(r:List Tk)(hp:QS w bp (t :: r) 0 0) :
  Calls Tryz.prog 58 #[.pointer (some ⟨bp,0,none⟩),.bool true,.int .i64 (er:Int)] w fun e w'=>e=vd∧QS w' bp (t :: r) t.at_ er∧UB bp w w':=by
 obtain ⟨b',o,c,n,hn,hl,hc,hm,⟨c0,c1,c2,c3⟩,⟨z0,z1,z2,z3⟩,f4,f5,f6⟩:=hp.head;have hlt:=hp.lt;have HT:=Hi (tok w bp 0 0 t r hp);have HP:=Hi hp;clear hn hp;go_enter Tryz.func58,Tryz.ntmps58;go_wp2_with fail
 refine HT.out.mono ?_;rintro e w1 ⟨rfl,hb1⟩;obtain ⟨b',o,c,n,hn,hl,hc,hm,⟨c0,c1,c2,c3⟩,⟨z0,z1,z2,z3⟩,f4,f5,f6⟩:=(HP.out.below hb1).head;have HP1:=Hi (HP.out.below hb1);have HU1:=Hi (below_UB (bp:=bp) hb1);have hlt1:=(HP.out.below hb1).lt;clear hb1 hn;go_wp2_with fail
 first | go_end0 | skip
 all_goals first | refine ⟨rfl,?_,?_⟩ | refine bodyPost_ret (results_none rfl _ _ _) rfl ⟨rfl,?_,?_⟩
 ·exact HP1.out.wrong _ _
 ·exact (HU1.out.setCell (fun _=>rfl) _).setCell (fun _=>rfl) _
theorem on_no(w:World)(bp ba wy:Nat)(t:Tk)(r:List Tk)(hp:QS w bp (t :: r) ba wy)(hb:wy≠0) :
  Calls Tryz.prog 91 #[.pointer (some ⟨bp,0,none⟩)] w fun e w'=>e=vd∧Below w.heap.size w w':=by
 obtain ⟨b',o,c,n,hn,hl,hc,hm,⟨c0,c1,c2,c3⟩,⟨z0,z1,z2,z3⟩,f4,f5,f6⟩:=hp.head;have hlt:=hp.lt;have hz:((wy:Int)==0)=false:=by simp;omega
 clear hn hp;go_enter Tryz.func91,Tryz.ntmps91;go_wp2_with fail
 go_quiet (fail)
 go_wp2_with fail
 first | go_end0 | skip
 all_goals first | exact ⟨rfl,below_drewN (Below.refl _ _) _⟩ | refine bodyPost_ret (results_none rfl _ _ _) rfl ⟨rfl,below_drewN (Below.refl _ _) _⟩
theorem on_yes(w:World)(bp:Nat)(t:Tk)(r:List Tk)(hp:QS w bp (t :: r) 0 0)(hr:r≠[]) :
  Calls Tryz.prog 91 #[.pointer (some ⟨bp,0,none⟩)] w fun e w'=>e=vd∧QS w' bp r 0 0∧UB bp w w':=by
 obtain ⟨b',o,c,n,hn,hl,hc,hm,⟨c0,c1,c2,c3⟩,⟨z0,z1,z2,z3⟩,f4,f5,f6⟩:=hp.head;have hlt:=hp.lt;have HO:=Hi fun k:Nat=>(hp.below (below_drewN (Below.refl _ _) k)).on (n:=n) (show (w.drewN k).cell? ⟨bp,1,none⟩=_ from c1)
 have hrl:0 < r.length:=List.length_pos_iff.2 hr;clear hn hp hr;go_enter Tryz.func91,Tryz.ntmps91;go_wp2_with fail
 go_quiet (fail)
 go_wp2_with fail
 first | go_end0 | skip
 all_goals first | refine ⟨rfl,?_,?_⟩ | refine bodyPost_ret (results_none rfl _ _ _) rfl ⟨rfl,?_,?_⟩
 ·exact HO.out _
 ·exact (below_UB (bp:=bp) (below_drewN (Below.refl _ _) _)).setCell (fun _=>rfl) _
theorem goes_no(w:World)(bp ba wy:Nat)(t:Tk)(r:List Tk)(b:Bs)(hp:QS w bp (t :: r) ba wy)(hb:wy≠0∨isS b t=false) :
  Calls Tryz.prog 53 #[.pointer (some ⟨bp,0,none⟩),.string ⟨b.toArray⟩] w fun e w'=>e = .returned (.bool false)∧Below w.heap.size w w':=by
 have HT:=Hi (tok w bp ba wy t r hp);have HP:=Hi hp;have hlt:=hp.lt;have hc:wy≠0∨(wy = 0∧t.k≤2)∨(wy = 0∧2 < t.k∧(t.s==b)=false):=by
  by_cases h0:wy = 0
  ·rcases hb with hb | hb
   ·exact absurd h0 hb
   ·unfold isS at hb;by_cases h2:2 < t.k
    ·exact .inr (.inr ⟨h0,h2,by simpa [h2] using hb⟩)
    ·exact .inr (.inl ⟨h0,by omega⟩)
  ·exact .inl h0
 clear hp hb;rcases hc with h | ⟨rfl,h⟩ | ⟨rfl,h,h3⟩
 ·have hz:((wy:Int)==0)=false:=by simp;omega
  go_enter Tryz.func53,Tryz.ntmps53;go_wp2_with fail
  all_goals
   refine HT.out.mono ?_;rintro e w1 ⟨rfl,hb1⟩;obtain ⟨b',o,c,n,hn,hl,hc,hm,⟨c0,c1,c2,c3⟩,⟨z0,z1,z2,z3⟩,f4,f5,f6⟩:=(HP.out.below hb1).head;have hlt1:=(HP.out.below hb1).lt;have HB1:=Hi hb1;clear hb1 hn;go_wp2_with fail
   go_ret;exact ⟨rfl,HB1.out.alloc HB1.out.size _⟩
 ·go_enter Tryz.func53,Tryz.ntmps53;go_wp2_with fail
  all_goals
   refine HT.out.mono ?_;rintro e w1 ⟨rfl,hb1⟩;obtain ⟨b',o,c,n,hn,hl,hc,hm,⟨c0,c1,c2,c3⟩,⟨z0,z1,z2,z3⟩,f4,f5,f6⟩:=(HP.out.below hb1).head;have hlt1:=(HP.out.below hb1).lt;have HB1:=Hi hb1;clear hb1 hn;go_wp2_with fail
   go_ret;exact ⟨rfl,HB1.out.alloc HB1.out.size _⟩
 ·go_enter Tryz.func53,Tryz.ntmps53;go_wp2_with fail
  all_goals
   refine HT.out.mono ?_;rintro e w1 ⟨rfl,hb1⟩;obtain ⟨b',o,c,n,hn,hl,hc,hm,⟨c0,c1,c2,c3⟩,⟨z0,z1,z2,z3⟩,f4,f5,f6⟩:=(HP.out.below hb1).head;have hlt1:=(HP.out.below hb1).lt;have HB1:=Hi hb1;clear hb1 hn;go_wp2_with fail
   go_ret;exact ⟨rfl,HB1.out.alloc HB1.out.size _⟩
theorem goes_yes(w:World)(bp:Nat)(t:Tk)(r:List Tk)(b:Bs)(hp:QS w bp (t :: r) 0 0)(hb:isS b t=true)(hr:r≠[]) :
  Calls Tryz.prog 53 #[.pointer (some ⟨bp,0,none⟩),.string ⟨b.toArray⟩] w fun e w'=>e = .returned (.bool true)∧QS w' bp r 0 0∧UB bp w w':=by
 have HT:=Hi (tok w bp 0 0 t r hp);have HP:=Hi hp;have hlt:=hp.lt;have HR:=Hi hr;unfold isS at hb;simp only [Bool.and_eq_true,decide_eq_true_eq] at hb;obtain ⟨h2,h3⟩:=hb;clear hp hr;go_enter Tryz.func53,Tryz.ntmps53;go_wp2_with fail
 refine HT.out.mono ?_;rintro e w1 ⟨rfl,hb1⟩;obtain ⟨b',o,c,n,hn,hl,hc,hm,⟨c0,c1,c2,c3⟩,⟨z0,z1,z2,z3⟩,f4,f5,f6⟩:=(HP.out.below hb1).head;have hlt1:=(HP.out.below hb1).lt;have HB1:=Hi hb1;have HO:=Hi fun (w2:World) (h:Below w1.heap.size w1 w2)=>on_yes w2 bp t r ((HP.out.below hb1).below h) HR.out
 clear hb1 hn;go_wp2_with fail
 refine (HO.out _ ((Below.refl _ _).alloc (Nat.le_refl _) _)).mono ?_;rintro e w2 ⟨rfl,hp2,hu2⟩;have HP2:=Hi hp2;have HU2:=Hi (((below_UB (bp:=bp) HB1.out).alloc _).trans hu2);clear hp2 hu2;go_wp2_with fail
 go_ret;exact ⟨rfl,HP2.out,HU2.out⟩
end
section
attribute [local go_sem] fTk0 fTk1 fTk2
theorem must_dead(w:World)(bp ba wy:Nat)(t:Tk)(r:List Tk)(b:Bs)(hp:QS w bp (t :: r) ba wy)(hw:wy≠0) :
  Calls Tryz.prog 55 #[.pointer (some ⟨bp,0,none⟩),.string ⟨b.toArray⟩] w fun e w'=>e=vd∧Below w.heap.size w w':=by
 have HG:=Hi (goes_no w bp ba wy t r b hp (.inl hw));have HP:=Hi hp;have HZ:=Hi hw;clear hp hw;go_enter Tryz.func55,Tryz.ntmps55;go_wp2_with fail
 refine HG.out.mono ?_;rintro e w1 ⟨rfl,hb1⟩;have HB:=Hi (bad_no w1 bp ba wy 100 true t r (HP.out.below hb1) (.inr HZ.out));have HB1:=Hi hb1;clear hb1;go_wp2_with fail
 refine HB.out.mono ?_;rintro e w2 ⟨rfl,rfl⟩;go_wp2_with fail
 first | go_end0 | skip
 all_goals first | exact ⟨rfl,HB1.out⟩ | refine bodyPost_ret (results_none rfl _ _ _) rfl ⟨rfl,HB1.out⟩
theorem must_no(w:World)(bp:Nat)(t:Tk)(r:List Tk)(b:Bs)(hp:QS w bp (t :: r) 0 0)(hb:isS b t=false) :
  Calls Tryz.prog 55 #[.pointer (some ⟨bp,0,none⟩),.string ⟨b.toArray⟩] w fun e w'=>e=vd∧QS w' bp (t :: r) t.at_ 100∧UB bp w w':=by
 have HG:=Hi (goes_no w bp 0 0 t r b hp (.inr hb));have HP:=Hi hp;clear hp hb;go_enter Tryz.func55,Tryz.ntmps55;go_wp2_with fail
 refine HG.out.mono ?_;rintro e w1 ⟨rfl,hb1⟩;have HB:=Hi (bad_yes w1 bp 100 t r (HP.out.below hb1));have HU1:=Hi (below_UB (bp:=bp) hb1);clear hb1;go_wp2_with fail
 refine HB.out.mono ?_;rintro e w2 ⟨rfl,hp2,hu2⟩;have HP2:=Hi hp2;have HU2:=Hi (HU1.out.trans hu2);clear hp2 hu2;go_wp2_with fail
 first | go_end0 | skip
 all_goals first | exact ⟨rfl,HP2.out,HU2.out⟩ | refine bodyPost_ret (results_none rfl _ _ _) rfl ⟨rfl,HP2.out,HU2.out⟩
theorem QS.cons{w:World}{bp ba wy:Nat}{l:List Tk}(h:QS w bp l ba wy)(hl:l≠[]):∃ t r,l=t :: r:=by
 cases l with
 | nil=>exact absurd rfl hl
 | cons t r=>exact ⟨t,r,rfl⟩
theorem must_yes(w:World)(bp:Nat)(t:Tk)(r:List Tk)(b:Bs)(hp:QS w bp (t :: r) 0 0)(hb:isS b t=true)(hr:r≠[]) :
  Calls Tryz.prog 55 #[.pointer (some ⟨bp,0,none⟩),.string ⟨b.toArray⟩] w fun e w'=>e=vd∧QS w' bp r 0 0∧UB bp w w':=by
 have HG:=Hi (goes_yes w bp t r b hp hb hr);obtain ⟨u,q,rfl⟩:=List.exists_cons_of_ne_nil hr;clear hp hb hr;go_enter Tryz.func55,Tryz.ntmps55;go_wp2_with fail
 refine HG.out.mono ?_;rintro e w1 ⟨rfl,hp1,hu1⟩;have HB:=Hi (bad_no w1 bp 0 0 100 false u q hp1 (.inl rfl));have HU1:=Hi hu1;have HP1:=Hi hp1;clear hu1 hp1;go_wp2_with fail
 refine HB.out.mono ?_;rintro e w2 ⟨rfl,rfl⟩;go_wp2_with fail
 first | go_end0 | skip
 all_goals first | exact ⟨rfl,HP1.out,HU1.out⟩ | refine bodyPost_ret (results_none rfl _ _ _) rfl ⟨rfl,HP1.out,HU1.out⟩
theorem name_dead(w:World)(bp ba wy:Nat)(t:Tk)(r:List Tk)(hp:QS w bp (t :: r) ba wy)(hw:wy≠0) :
  Calls Tryz.prog 56 #[.pointer (some ⟨bp,0,none⟩)] w fun e w'=>e = .returned (.string ⟨t.s.toArray⟩)∧Below w.heap.size w w':=by
 have HT:=Hi fun (w':World) (h:Below w.heap.size w w')=>tok w' bp ba wy t r (hp.below h)
 have HP:=Hi hp;have HZ:=Hi hw;clear hp hw;go_enter Tryz.func56,Tryz.ntmps56;go_wp2_with fail
 refine (HT.out _ (Below.refl _ _)).mono ?_;rintro e w1 ⟨rfl,hb1⟩;have HT1:=Hi (HT.out w1 hb1);have HB1:=Hi hb1;clear hb1;go_wp2_with fail
 refine HT1.out.mono ?_;rintro e w2 ⟨rfl,hb2⟩;have hb2':=HB1.out.trans (hb2.mono HB1.out.size);have HB2:=Hi hb2';have HBD:=Hi fun b:Bool=>bad_no w2 bp ba wy 100 b t r (HP.out.below hb2') (.inr HZ.out)
 have HON:=Hi (on_no w2 bp ba wy t r (HP.out.below hb2') HZ.out);clear hb2 hb2' HT HT1;go_wp2_with fail
 all_goals
  refine (HBD.out _).mono ?_;rintro e w' ⟨rfl,rfl⟩;go_wp2_with fail
  refine HON.out.mono ?_;rintro e w3 ⟨rfl,hb3⟩;have HB3:=Hi (HB2.out.trans (hb3.mono HB2.out.size));clear hb3;go_wp2_with fail
  go_ret;exact ⟨rfl,HB3.out⟩
theorem name_no(w:World)(bp:Nat)(t:Tk)(r:List Tk)(hp:QS w bp (t :: r) 0 0)(hk:t.k≠1) :
  Calls Tryz.prog 56 #[.pointer (some ⟨bp,0,none⟩)] w fun e w'=>e = .returned (.string ⟨t.s.toArray⟩)∧QS w' bp (t :: r) t.at_ 100∧UB bp w w':=by
 have HT:=Hi fun (w':World) (h:Below w.heap.size w w')=>tok w' bp 0 0 t r (hp.below h)
 have HP:=Hi hp;have hq:((t.k:Int) != 1)=true:=by simp;omega
 have hq2:((t.k:Int)==1)=false:=by simp;omega
 clear hp hk;go_enter Tryz.func56,Tryz.ntmps56;go_wp2_with fail
 refine (HT.out _ (Below.refl _ _)).mono ?_;rintro e w1 ⟨rfl,hb1⟩;have HT1:=Hi (HT.out w1 hb1);have HB1:=Hi hb1;clear hb1;go_wp2_with fail
 refine HT1.out.mono ?_;rintro e w2 ⟨rfl,hb2⟩;have hb2':=HB1.out.trans (hb2.mono HB1.out.size);have HB2:=Hi hb2';have HBD:=Hi (bad_yes w2 bp 100 t r (HP.out.below hb2'));clear hb2 hb2' HT HT1;go_wp2_with fail
 refine HBD.out.mono ?_;rintro e w3 ⟨rfl,hp3,hu3⟩;have HON:=Hi (on_no w3 bp t.at_ 100 t r hp3 (by decide));have HP3:=Hi hp3;have HU3:=Hi ((below_UB (bp:=bp) HB2.out).trans hu3);clear hp3 hu3;go_wp2_with fail
 refine HON.out.mono ?_;rintro e w4 ⟨rfl,hb4⟩;have HP4:=Hi (HP3.out.below hb4);have HU4:=Hi (HU3.out.trans (below_UB hb4));clear hb4;go_wp2_with fail
 go_ret;exact ⟨rfl,HP4.out,HU4.out⟩
theorem name_yes(w:World)(bp:Nat)(t:Tk)(r:List Tk)(hp:QS w bp (t :: r) 0 0)(hk:t.k = 1)(hr:r≠[]) :
  Calls Tryz.prog 56 #[.pointer (some ⟨bp,0,none⟩)] w fun e w'=>e = .returned (.string ⟨t.s.toArray⟩)∧QS w' bp r 0 0∧UB bp w w':=by
 have hT:∀ (w':World) (h:Below w.heap.size w w'),_:=fun w' h=>tok w' bp 0 0 t r (hp.below h)
 rw [hk] at hT;have HT:=Hi hT;have HP:=Hi hp;have HR:=Hi hr;clear hp hk hr hT;go_enter Tryz.func56,Tryz.ntmps56;go_wp2_with fail
 refine (HT.out _ (Below.refl _ _)).mono ?_;rintro e w1 ⟨rfl,hb1⟩;have HT1:=Hi (HT.out w1 hb1);have HB1:=Hi hb1;clear hb1;go_wp2_with fail
 refine HT1.out.mono ?_;rintro e w2 ⟨rfl,hb2⟩;have hb2':=HB1.out.trans (hb2.mono HB1.out.size);have HB2:=Hi hb2';have HBD:=Hi (bad_no w2 bp 0 0 100 false t r (HP.out.below hb2') (.inl rfl));have HON:=Hi (on_yes w2 bp t r (HP.out.below hb2') HR.out);clear hb2 hb2' HT HT1;go_wp2_with fail
 refine HBD.out.mono ?_;rintro e w' ⟨rfl,rfl⟩;go_wp2_with fail
 refine HON.out.mono ?_;rintro e w3 ⟨rfl,hp3,hu3⟩;have HP3:=Hi hp3;have HU3:=Hi ((below_UB (bp:=bp) HB2.out).trans hu3);clear hp3 hu3;go_wp2_with fail
 go_ret;exact ⟨rfl,HP3.out,HU3.out⟩
end
end Go.Proofs.YtcgibpdjfgjldaaGreatDoor.Pq
namespace Go.Proofs.YtcgibpdjfgjldaaGreatDoor.Num
open Go.ChangeShapes Go.WideShapes Go.ChangeAt Go.RowKit
def DL:ByteArray:=⟨#[48,49,50,51,52,53,54,55,56,57,97,98,99,100,101,102,65,66,67,68,69,70]⟩
def dlN(k:Nat):Nat:=((DL[k]?).getD 0).toNat
theorem dl_at(k:Nat)(h:k < DL.size):(DL[k]'h).toNat=dlN k:=by
 unfold dlN;rw [getElem?_pos DL k h];rfl
def dTo(c:Nat):Nat→Nat
 | 0=>99
 | k+1=>if dlN k=c then (if 15 < k then k - 6 else k) else dTo c k
theorem dTo_end(c:Nat)(hc:c < 256):dTo c 22=if dvN c = 16 then 99 else dvN c:=by
 have:∀ i:Fin 256,dTo i.val 22=if dvN i.val = 16 then 99 else dvN i.val:=by decide +kernel
 exact this ⟨c,hc⟩
def byteN(s:ByteArray)(i:Nat):Nat:=((s.data.toList)[i]?.getD 0).toNat
theorem byteN_at(s:ByteArray)(i:Nat)(h:i < s.size):byteN s i=(s[i]'h).toNat:=by
 have h':i < s.data.toList.length:=by simpa using h
 unfold byteN;rw [List.getElem?_eq_getElem h'];rfl
def preB(s:ByteArray):Bool:=decide (1 < s.size) && (decide (byteN s 0 = 48) && decide (byteN s 1 = 120))
theorem idx_dl(j:Nat)(hj:j < 22)(w:World):(Instr.index 9 (.string ⟨#[48,49,50,51,52,53,54,55,56,57,97,98,99,100,101,102,65,66,67,68,69,70]⟩) (.int .i64 (j:Int))).run Tryz.prog w = .ok (.int .u8 ((dlN j:Nat):Int)) w:=by
 have hs:DL.size = 22:=by decide
 show (Instr.index 9 (.string DL) (.int .i64 (j:Int))).run Tryz.prog w=_;rw [run_index_string w 9 DL .i64 j Tryz.underlying9,dif_pos ⟨by omega,by rw [hs];omega⟩];have e:((j:Int)).toNat=j:=by omega
 simp only [e];rw [dl_at j (by rw [hs];exact hj)]
theorem idx_s(s:ByteArray)(k:Nat)(hk:k < s.size)(w:World):(Instr.index 9 (.string s) (.int .i64 (k:Int))).run Tryz.prog w = .ok (.int .u8 ((s[k].toNat:Nat):Int)) w:=by
 rw [run_index_string w 9 s .i64 k Tryz.underlying9,dif_pos ⟨by omega,by omega⟩];have e:((k:Int)).toNat=k:=by omega
 simp only [e]
theorem numR_drop_nil(base:Nat)(s:ByteArray)(a:Nat)(h:s.size=a):numR base (s.data.toList.drop a)=(0,4):=by
 rw [List.drop_of_length_le (by simp;omega)];rfl
theorem drop_ne(s:ByteArray)(a:Nat)(h:a < s.size):s.data.toList.drop a≠[]:=by
 intro e;have:=congrArg List.length e;simp at this;omega
theorem numR_none'(base:Nat)(L:List UInt8)(h:L≠[])(hr:nrun base L 0=none):numR base L=(0,4):=by
 unfold numR;rw [if_neg h,hr]
theorem numR_some'(base:Nat)(L:List UInt8)(n:Nat)(h:L≠[])(hr:nrun base L 0=some n):numR base L=if n = 4294967296 then (0,2) else (n,0):=by
 unfold numR;rw [if_neg h,hr]
theorem pre_size(s:ByteArray){hex:Bool}(h:preB s=hex):hex=true→2≤s.size:=by
 intro e;subst e;unfold preB at h;simp at h;omega
theorem rnumC(hex:Bool)(s:ByteArray)(w:World)(hp:preB s=hex)(hsz:s.size≤maxLen) :
  Calls Tryz.prog 141 #[.string s] w fun e w'=>e = .returned (resN (numR (if hex then 16 else 10) (s.data.toList.drop (if hex then 2 else 0))))∧∃ m,w'=w.drewN m:=by
 unfold maxLen at hsz;have HP:=Hi hp;clear hp;go_enter Tryz.func141,Tryz.ntmps141;go_upto_region 2 with fail
 go_cut [24] (fun v wx=>v = .bool hex∧w=wx)
 case first=>
  by_cases h1:1 < s.size
  ·have b0:=byteN_at s 0 (by omega);have b1:=byteN_at s 1 h1;have c0:s[0].toNat < 256:=s[0].toNat_lt;have c1:s[1].toNat < 256:=s[1].toNat_lt;by_cases h2:s[0].toNat = 48
   ·have e2:((s[0].toNat:Int)==48)=true:=by simp [h2]
    by_cases h3:s[1].toNat = 120
    ·have e3:((s[1].toNat:Int)==120)=true:=by simp [h3]
     have hfin:preB s=true:=by unfold preB;rw [b0,b1,h2,h3];simp [h1]
     have HF:=Hi hfin;clear hfin b0 b1 h2 h3;go_wp2_with fail
     go_meet
     exact ⟨by rw [←HP.out,HF.out],rfl⟩
    ·have e3:((s[1].toNat:Int)==120)=false:=by simp;omega
     have hfin:preB s=false:=by unfold preB;rw [b0,b1];simp [h3]
     have HF:=Hi hfin;clear hfin b0 b1 h2 h3;go_wp2_with fail
     go_meet
     exact ⟨by rw [←HP.out,HF.out],rfl⟩
   ·have e2:((s[0].toNat:Int)==48)=false:=by simp;omega
    have hfin:preB s=false:=by unfold preB;rw [b0,b1];simp [h2]
    have HF:=Hi hfin;clear hfin b0 b1 h2;go_wp2_with fail
    go_meet
    exact ⟨by rw [←HP.out,HF.out],rfl⟩
  ·have hfin:preB s=false:=by unfold preB;simp [h1]
   have HF:=Hi hfin;clear hfin;go_wp2_with fail
   go_meet
   exact ⟨by rw [←HP.out,HF.out],rfl⟩
 case rest=>
  obtain ⟨rfl,rfl⟩:=hcut;have hsz2:=pre_size s HP.out;cases hex
  ·clear hsz2
   go_wp2
   go_loopw [6,7,9] (fun vn vl vi wr=>∃ k n m:Nat,0≤k∧k≤s.size∧vi = .int .i64 k∧vn = .int .u64 n∧vl = .bool (decide (4294967296≤n))∧n≤4294967296∧Hid (nrun 10 (s.data.toList.drop 0) 0=nrun 10 (s.data.toList.drop k) n)∧wr=w.drewN m) (fun _ _ vi _=>s.size - (intOf vi).toNat)
   case atStart=>exact ⟨0,0,0,by omega,by omega,rfl,rfl,rfl,by omega,Hi rfl,rfl⟩
   case round=>
    obtain ⟨k,n,m,hk0,hk,rfl,rfl,rfl,hn,HI,rfl⟩:=hrel;by_cases hlt:k < s.size
    ·have hsx:=idx_s s k hlt;have hc:=s[k].toNat_lt;have hst:=nrun_step 10 s k n hlt;have hno:=nrun_none 10 s k n hlt;generalize s[k].toNat=c at hsx hc hst hno;have HST:=Hi hst;have HNO:=Hi hno;clear hst hno;go_wp2_with fail
     go_loopw [10,11] (fun vd vj wr=>∃ j q:Nat,j≤22∧vj = .int .i64 j∧vd = .int .u64 ((dTo c j:Nat):Int)∧wr=w.drewN q) (fun _ vj _=>22 - (intOf vj).toNat)
     case atStart=>exact ⟨0,m,by omega,rfl,rfl,rfl⟩
     case round=>
      obtain ⟨j,q,hj,rfl,rfl,rfl⟩:=hrel;by_cases hj22:j < 22
      ·have hix:=idx_dl j hj22;have hT:dTo c (j+1)=if dlN j=c then (if 15 < j then j - 6 else j) else dTo c j:=rfl
       generalize dTo c j=e0 at hT ⊢;generalize dlN j=x at hix hT;have HT:=Hi hT;clear hT;by_cases hxc:x=c
       ·have e1:((x:Int)==(c:Int))=true:=by simp [hxc]
        have HX:=Hi hxc;clear hxc;by_cases h15:15 < j
        ·go_wp2_with fail
         go_quiet (fail)
         go_wp2
         go_roundw
         case rel=>exact ⟨j+1,_,by omega,by go_num,by rw [HT.out,if_pos HX.out,if_pos h15];go_num,rfl⟩
         case measure=>simp [intOf];omega
        ·go_wp2_with fail
         go_quiet (fail)
         go_wp2
         go_roundw
         case rel=>exact ⟨j+1,_,by omega,by go_num,by rw [HT.out,if_pos HX.out,if_neg h15],rfl⟩
         case measure=>simp [intOf];omega
       ·have e1:((x:Int)==(c:Int))=false:=by simp;omega
        have HX:Hid (¬ x=c):=Hi hxc;clear hxc;go_wp2_with fail
        go_quiet (fail)
        go_wp2
        go_roundw
        case rel=>exact ⟨j+1,_,by omega,by go_num,by rw [HT.out,if_neg HX.out],rfl⟩
        case measure=>simp [intOf];omega
      ·have:j = 22:=by omega
       subst this;have hT:=dTo_end c hc;generalize dTo c 22=e0 at hT ⊢;have hdl:=dvN_le c;by_cases hd:dvN c < 10
       ·rw [if_neg (by omega)] at hT;have HS:=HST.out hd;subst hT;generalize dvN c=d at hd hdl HS ⊢;have HS':=Hi HS;clear HS;by_cases hbig:4294967296≤n * 10+d
        ·go_wp2
         go_roundw
         case rel=>exact ⟨k+1,4294967296,q,by omega,by omega,by go_num,rfl,rfl,by omega,Hi (by rw [HI.out,HS'.out,Nat.min_eq_right hbig]),rfl⟩
         case measure=>simp [intOf];omega
        ·go_wp2
         go_roundw
         case rel=>exact ⟨k+1,n * 10+d,q,by omega,by omega,by go_num,by go_num,by rw [decide_eq_false (by omega),decide_eq_false (by omega)],by omega,Hi (by rw [HI.out,HS'.out,Nat.min_eq_left (by omega)]),rfl⟩
         case measure=>simp [intOf];omega
       ·have hno:=HNO.out hd;rw [←HI.out] at hno;have he:10≤e0:=by split at hT <;> omega
        have hfin:=numR_none' 10 _ (drop_ne s 0 (by omega)) hno;have HF:=Hi hfin;clear hT hno hfin hd hdl
        go_wp2
        go_ret2
        exact ⟨by show _=Ending.returned (resN (numR 10 (List.drop 0 s.data.toList)));rw [HF.out];rfl,q,rfl⟩
    ·have:k=s.size:=by omega
     subst this;have hI:=HI.out;rw [nrun_end] at hI;by_cases h0:s.size = 0
     ·have hfin:=numR_drop_nil 10 s 0 h0;have e0:((0:Int)==(s.size:Int))=true:=by simp;omega
      have HF:=Hi hfin;clear hfin hI HI h0
      go_wp2
      go_ret2
      exact ⟨by show _=Ending.returned (resN (numR 10 (List.drop 0 s.data.toList)));rw [HF.out];rfl,m,rfl⟩
     ·have hfin:=numR_some' 10 _ n (drop_ne s 0 (by omega)) hI;have e0:((0:Int)==(s.size:Int))=false:=by simp;omega
      by_cases hl:4294967296≤n
      ·rw [if_pos (by omega)] at hfin;have HF:=Hi hfin;clear hfin hI HI
       go_wp2
       go_ret2
       exact ⟨by show _=Ending.returned (resN (numR 10 (List.drop 0 s.data.toList)));rw [HF.out];rfl,m,rfl⟩
      ·rw [if_neg (by omega)] at hfin;have HF:=Hi hfin;clear hfin hI HI
       go_wp2
       go_ret2
       exact ⟨by show _=Ending.returned (resN (numR 10 (List.drop 0 s.data.toList)));rw [HF.out];rfl,m,rfl⟩
  ·have hsz3:=hsz2 rfl;clear hsz2
   go_wp2
   go_loopw [6,7,9] (fun vn vl vi wr=>∃ k n m:Nat,2≤k∧k≤s.size∧vi = .int .i64 k∧vn = .int .u64 n∧vl = .bool (decide (4294967296≤n))∧n≤4294967296∧Hid (nrun 16 (s.data.toList.drop 2) 0=nrun 16 (s.data.toList.drop k) n)∧wr=w.drewN m) (fun _ _ vi _=>s.size - (intOf vi).toNat)
   case atStart=>exact ⟨2,0,0,by omega,by omega,rfl,rfl,rfl,by omega,Hi rfl,rfl⟩
   case round=>
    obtain ⟨k,n,m,hk0,hk,rfl,rfl,rfl,hn,HI,rfl⟩:=hrel;by_cases hlt:k < s.size
    ·have hsx:=idx_s s k hlt;have hc:=s[k].toNat_lt;have hst:=nrun_step 16 s k n hlt;have hno:=nrun_none 16 s k n hlt;generalize s[k].toNat=c at hsx hc hst hno;have HST:=Hi hst;have HNO:=Hi hno;clear hst hno;go_wp2_with fail
     go_loopw [10,11] (fun vd vj wr=>∃ j q:Nat,j≤22∧vj = .int .i64 j∧vd = .int .u64 ((dTo c j:Nat):Int)∧wr=w.drewN q) (fun _ vj _=>22 - (intOf vj).toNat)
     case atStart=>exact ⟨0,m,by omega,rfl,rfl,rfl⟩
     case round=>
      obtain ⟨j,q,hj,rfl,rfl,rfl⟩:=hrel;by_cases hj22:j < 22
      ·have hix:=idx_dl j hj22;have hT:dTo c (j+1)=if dlN j=c then (if 15 < j then j - 6 else j) else dTo c j:=rfl
       generalize dTo c j=e0 at hT ⊢;generalize dlN j=x at hix hT;have HT:=Hi hT;clear hT;by_cases hxc:x=c
       ·have e1:((x:Int)==(c:Int))=true:=by simp [hxc]
        have HX:=Hi hxc;clear hxc;by_cases h15:15 < j
        ·go_wp2_with fail
         go_quiet (fail)
         go_wp2
         go_roundw
         case rel=>exact ⟨j+1,_,by omega,by go_num,by rw [HT.out,if_pos HX.out,if_pos h15];go_num,rfl⟩
         case measure=>simp [intOf];omega
        ·go_wp2_with fail
         go_quiet (fail)
         go_wp2
         go_roundw
         case rel=>exact ⟨j+1,_,by omega,by go_num,by rw [HT.out,if_pos HX.out,if_neg h15],rfl⟩
         case measure=>simp [intOf];omega
       ·have e1:((x:Int)==(c:Int))=false:=by simp;omega
        have HX:Hid (¬ x=c):=Hi hxc;clear hxc;go_wp2_with fail
        go_quiet (fail)
        go_wp2
        go_roundw
        case rel=>exact ⟨j+1,_,by omega,by go_num,by rw [HT.out,if_neg HX.out],rfl⟩
        case measure=>simp [intOf];omega
      ·have:j = 22:=by omega
       subst this;have hT:=dTo_end c hc;generalize dTo c 22=e0 at hT ⊢;have hdl:=dvN_le c;by_cases hd:dvN c < 16
       ·rw [if_neg (by omega)] at hT;have HS:=HST.out hd;subst hT;generalize dvN c=d at hd hdl HS ⊢;have HS':=Hi HS;clear HS;by_cases hbig:4294967296≤n * 16+d
        ·go_wp2
         go_roundw
         case rel=>exact ⟨k+1,4294967296,q,by omega,by omega,by go_num,rfl,rfl,by omega,Hi (by rw [HI.out,HS'.out,Nat.min_eq_right hbig]),rfl⟩
         case measure=>simp [intOf];omega
        ·go_wp2
         go_roundw
         case rel=>exact ⟨k+1,n * 16+d,q,by omega,by omega,by go_num,by go_num,by rw [decide_eq_false (by omega),decide_eq_false (by omega)],by omega,Hi (by rw [HI.out,HS'.out,Nat.min_eq_left (by omega)]),rfl⟩
         case measure=>simp [intOf];omega
       ·have hno:=HNO.out hd;rw [←HI.out] at hno;have he:16≤e0:=by split at hT <;> omega
        have hfin:=numR_none' 16 _ (drop_ne s 2 (by omega)) hno;have HF:=Hi hfin;clear hT hno hfin hd hdl
        go_wp2
        go_ret2
        exact ⟨by show _=Ending.returned (resN (numR 16 (List.drop 2 s.data.toList)));rw [HF.out];rfl,q,rfl⟩
    ·have:k=s.size:=by omega
     subst this;have hI:=HI.out;rw [nrun_end] at hI;by_cases h0:s.size = 2
     ·have hfin:=numR_drop_nil 16 s 2 h0;have e0:((2:Int)==(s.size:Int))=true:=by simp;omega
      have HF:=Hi hfin;clear hfin hI HI h0
      go_wp2
      go_ret2
      exact ⟨by show _=Ending.returned (resN (numR 16 (List.drop 2 s.data.toList)));rw [HF.out];rfl,m,rfl⟩
     ·have hfin:=numR_some' 16 _ n (drop_ne s 2 (by omega)) hI;have e0:((2:Int)==(s.size:Int))=false:=by simp;omega
      by_cases hl:4294967296≤n
      ·rw [if_pos (by omega)] at hfin;have HF:=Hi hfin;clear hfin hI HI
       go_wp2
       go_ret2
       exact ⟨by show _=Ending.returned (resN (numR 16 (List.drop 2 s.data.toList)));rw [HF.out];rfl,m,rfl⟩
      ·rw [if_neg (by omega)] at hfin;have HF:=Hi hfin;clear hfin hI HI
       go_wp2
       go_ret2
       exact ⟨by show _=Ending.returned (resN (numR 16 (List.drop 2 s.data.toList)));rw [HF.out];rfl,m,rfl⟩
theorem pre_eq(s:ByteArray):Lib.hasPrefix s.data.toList [48,120]=preB s:=by
 have hz:s.data.toList.length=s.size:=by simp
 unfold Lib.hasPrefix preB byteN;rw [←hz]
 match s.data.toList with
 | []=>rfl
 | [a]=>simp [List.isPrefixOf]
 | a :: b :: l=>
  have h8:∀ x y:UInt8,(x==y)=decide (y.toNat=x.toNat):=fun x y=>by
   rw [Bool.eq_iff_iff,beq_iff_eq,decide_eq_true_iff];exact ⟨fun h=>by rw [h],fun h=>(UInt8.toNat_inj.1 h).symm⟩
  simp [List.isPrefixOf,h8]
end Go.Proofs.YtcgibpdjfgjldaaGreatDoor.Num
namespace Go.Proofs.YtcgibpdjfgjldaaGreatDoor.Pq
open Go Go.ChangeShapes Go.WideShapes Go.ChangeAt Go.RowKit Lx Args Pa
section
attribute [local go_sem] fTk0 fTk1 fTk2
def OutQ(w:World)(bp:Nat)(l:List Tk)(R:Out→Prop)(e:Ending)(w':World):Prop:=
 ∃ k a s n A la cA B lb cB,e = .returned (.agg #[.int .i64 (k:Nat),.string ⟨(s:Bs).toArray⟩,.int .u32 (n:Nat),.int .i64 (a:Nat),.slice A la cA,.slice B lb cB])∧UB bp w w' ∧
  ((∃ x r,TIn (fun b=>w.heap.size≤b) w' x (ndC k a s n A la cA B lb cB)∧R (.ok [x] r)∧QS w' bp r 0 0∧Gt r∧r.length < l.length)∨(∃ ba er t r,er≠0∧R (.bad ba er)∧QS w' bp (t :: r) ba er))
theorem OutQ.imp{w:World}{bp:Nat}{l:List Tk}{R R':Out→Prop}{e:Ending}{w':World}(h:OutQ w bp l R e w')(hR:∀ o,R o→R' o):OutQ w bp l R' e w':=by
 obtain ⟨k,a,s,n,A,la,cA,B,lb,cB,h1,h2,h3⟩:=h;refine ⟨k,a,s,n,A,la,cA,B,lb,cB,h1,h2,?_⟩;rcases h3 with ⟨x,r,g1,g2,g3⟩ | ⟨ba,er,t,r,g1,g2,g3⟩
 ·exact .inl ⟨x,r,g1,hR _ g2,g3⟩
 ·exact .inr ⟨ba,er,t,r,g1,hR _ g2,g3⟩
theorem tup{lo lo':Nat}{w:World}{x:Tr}{c:List Value}(h:TIn (fun b=>lo≤b) w x c)(hl:lo'≤lo):TIn (fun b=>lo'≤b) w x c:=h.mono fun b hb _=>Nat.le_trans hl hb
theorem tfar{X:Nat→Prop}{lo:Nat}{w w':World}{x:Tr}{c:List Value}(h:TIn (fun b=>lo≤b) w x c)(hu:Upd X w w')(hX:∀ b,X b→b < lo):TIn (fun b=>lo≤b) w' x c:=h.upd hu fun b hb hx=>by have:=hX b hx;omega
theorem q_ok{w w1:World}{bp lo:Nat}{l r:List Tk}{R:Out→Prop}{k a n la cA lb cB:Nat}{s:Bs}{A B:Option Addr}{x:Tr}(hlt:bp < w.heap.size)(hg:w.heap.size < lo)(hT:TIn (fun b=>lo≤b) w1 x (ndC k a s n A la cA B lb cB))(hR:R (.ok [x] r))(hP:QS w1 bp r 0 0)(hG:Gt r)(hr:r.length < l.length)(hU:UB bp w w1) :
  OutQ w bp l R (.returned (.agg #[.int .i64 (k:Int),.string ⟨s.toArray⟩,.int .u32 (n:Int),.int .i64 (a:Int),.slice A la cA,.slice B lb cB])) (put6 w1 w.heap.size (.int .i64 (k:Int)) (.string ⟨s.toArray⟩) (.int .u32 (n:Int)) (.int .i64 (a:Int)) (.slice A la cA) (.slice B lb cB)):=by
 have hu:Upd (fun b=>b=w.heap.size) w1 (put6 w1 w.heap.size (.int .i64 (k:Int)) (.string ⟨s.toArray⟩) (.int .u32 (n:Int)) (.int .i64 (a:Int)) (.slice A la cA) (.slice B lb cB)):=put6_upd (X:=fun b=>b=w.heap.size) (Upd.refl _ _) (fun _=>rfl) _ _ _ _ _ _;refine ⟨k,a,s,n,A,la,cA,B,lb,cB,rfl,put6_upd hU (fun h=>absurd h (Nat.lt_irrefl _)) _ _ _ _ _ _,.inl ⟨x,r,?_,hR,hP.far hu fun b hb=>by omega,hG,hr⟩⟩;exact tup (tfar hT hu fun b hb=>by omega) (Nat.le_of_lt hg)
theorem q_bad{w w1:World}{bp ba er:Nat}{l r:List Tk}{t:Tk}{R:Out→Prop}(k a n la cA lb cB:Nat)(s:Bs)(A B:Option Addr)(hlt:bp < w.heap.size)(he:er≠0)(hR:R (.bad ba er))(hP:QS w1 bp (t :: r) ba er)(hU:UB bp w w1) :
  OutQ w bp l R (.returned (.agg #[.int .i64 (k:Int),.string ⟨s.toArray⟩,.int .u32 (n:Int),.int .i64 (a:Int),.slice A la cA,.slice B lb cB])) (put6 w1 w.heap.size (.int .i64 (k:Int)) (.string ⟨s.toArray⟩) (.int .u32 (n:Int)) (.int .i64 (a:Int)) (.slice A la cA) (.slice B lb cB)):=by
 have hu:Upd (fun b=>b=w.heap.size) w1 (put6 w1 w.heap.size (.int .i64 (k:Int)) (.string ⟨s.toArray⟩) (.int .u32 (n:Int)) (.int .i64 (a:Int)) (.slice A la cA) (.slice B lb cB)):=put6_upd (X:=fun b=>b=w.heap.size) (Upd.refl _ _) (fun _=>rfl) _ _ _ _ _ _;exact ⟨k,a,s,n,A,la,cA,B,lb,cB,rfl,put6_upd hU (fun h=>absurd h (Nat.lt_irrefl _)) _ _ _ _ _ _,.inr ⟨ba,er,t,r,he,hR,hP.far hu fun b hb=>by omega⟩⟩
abbrev zNd:Array Value:=#[.int .i64 0,.string ⟨#[]⟩,.int .u32 0,.int .i64 0,.slice none 0 0,.slice none 0 0]
theorem node(w:World)(k a:Nat)(s:Bs)(A:Option Addr)(la cA:Nat) :
  Calls Tryz.prog 24 #[.int .i64 (k:Int),.int .i64 (a:Int),.string ⟨s.toArray⟩,.slice A la cA] w fun e w'=>
   e = .returned (.agg #[.int .i64 (k:Int),.string ⟨s.toArray⟩,.int .u32 0,.int .i64 (a:Int),.slice A la cA,.slice none 0 0])∧Below w.heap.size w w':=by
 go_enter Tryz.func24,Tryz.ntmps24;go_wp2_with fail
 refine bodyPost_ret (resNd rfl rfl (Blk.new _ _ _) rfl) rfl ⟨rfl,?_⟩;exact (Below.refl _ _).alloc (Nat.le_refl _) _
theorem level_dead(w:World)(bp ba wy d:Nat)(t:Tk)(r:List Tk)(hp:QS w bp (t :: r) ba wy)(hw:wy≠0) :
  Calls Tryz.prog 88 #[.pointer (some ⟨bp,0,none⟩),.int .i64 0,.int .i64 (d:Int)] w fun e w'=>e = .returned (.agg zNd)∧Below w.heap.size w w':=by
 obtain ⟨b',o,c,n,hn,hl,hc,hm,⟨c0,c1,c2,c3⟩,⟨z0,z1,z2,z3⟩,f4,f5,f6⟩:=hp.head;have hlt:=hp.lt;have hz:((wy:Int) != 0)=true:=by simp;omega
 have hz2:((wy:Int)==0)=false:=by simp;omega
 clear hn hp hw;go_enter Tryz.func88,Tryz.ntmps88;go_wp2_with fail
 first
  | refine bodyPost_ret (resNd rfl rfl (Blk.new _ _ _) rfl) rfl ⟨rfl,(Below.refl _ _).alloc (Nat.le_refl _) _⟩
  | refine bodyPost_ret (resNd rfl rfl (Blk.put6 (Blk.new _ _ _) _ _ _ _ _ _) rfl) rfl ⟨rfl,?_⟩
end
end Go.Proofs.YtcgibpdjfgjldaaGreatDoor.Pq
