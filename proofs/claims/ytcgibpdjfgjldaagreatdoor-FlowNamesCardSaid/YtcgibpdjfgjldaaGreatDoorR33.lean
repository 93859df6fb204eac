/- DERIVED. RqSt, RqSm, RqMu, RqNum, RqNd, RqEx, RqUn, RqPn. By an AI agent. -/
import Derived.Test.YtcgibpdjfgjldaaGreatDoorR20
import Derived.Test.YtcgibpdjfgjldaaGreatDoorR02
import Derived.StillTailTactics
import Derived.Deep.DeepCutAuto
import Derived.WalkSmall
set_option maxRecDepth 100000
set_option maxHeartbeats 4000000
set_option linter.unusedVariables false
set_option linter.unusedSimpArgs false
namespace Go.Proofs.YtcgibpdjfgjldaaGreatDoor
namespace Pq
open Go Go.ChangeShapes Go.WideShapes Go.ChangeAt Go.RowKit Lx Args Pa
section
attribute [local go_sem] bH bI bJ
theorem bH(k a:Int)(s:ByteArray)(w:World):(Instr.field 63 (.agg #[.int .i64 k,.string s,.int .i64 a]) 0).run Tryz.prog w = .ok (.int .i64 k) w:=V1
theorem bI(k a:Int)(s:ByteArray)(w:World):(Instr.field 63 (.agg #[.int .i64 k,.string s,.int .i64 a]) 1).run Tryz.prog w = .ok (.string s) w:=V1
theorem bJ(k a:Int)(s:ByteArray)(w:World):(Instr.field 63 (.agg #[.int .i64 k,.string s,.int .i64 a]) 2).run Tryz.prog w = .ok (.int .i64 a) w:=V1
theorem Aa.c4{w:World}{g:Nat}{t:TypeId}{a b c d:Value}(h:Aa w g t #[a,b,c,d]):w.cell? ⟨g,0,none⟩=some a/\w.cell? ⟨g,1,none⟩=some b/\w.cell? ⟨g,2,none⟩=some c/\w.cell? ⟨g,3,none⟩=some d/\w.frozen? ⟨g,0,none⟩=false/\w.frozen? ⟨g,1,none⟩=false/\w.frozen? ⟨g,2,none⟩=false/\w.frozen? ⟨g,3,none⟩=false:=
 ⟨h.cell 0,h.cell 1,h.cell 2,h.cell 3,h.frozen 0,h.frozen 1,h.frozen 2,h.frozen 3⟩
structure QS(w:World)(bp:Nat)(l:List Tk)(ba wy:Nat):Prop where
 ex:∃ b o c,∃ pre:List Tk,b < bp/\Aa w bp 60 #[.slice (some ⟨b,o,none⟩) (pre.length+l.length) c,.int .i64 (pre.length:Int),.int .i64 (ba:Int),.int .i64 (wy:Int)] /\
  Af w (some ⟨b,o,none⟩) ((pre ++ l).flatMap tkC)/\pre.length+l.length<=4000
theorem QS.lt{w:World}{bp ba wy:Nat}{l:List Tk}(h:QS w bp l ba wy):bp < w.heap.size:=by
 obtain ⟨b,o,c,pre,_,hb,_⟩:=h;exact hb.lt
theorem QS.below{w w':World}{bp ba wy:Nat}{l:List Tk}(h:QS w bp l ba wy)(hb:Below w.heap.size w w'):QS w' bp l ba wy:=by
 obtain ⟨b,o,c,pre,hn,h1,h2,h3⟩:=h;exact ⟨b,o,c,pre,hn,h1.below hb h1.lt,h2.below hb,h3⟩
theorem QS.far{X:Nat->Prop}{w w':World}{bp ba wy:Nat}{l:List Tk}(h:QS w bp l ba wy)(hu:Upd X w w')(hX:∀ b,X b->bp < b):QS w' bp l ba wy:=by
 obtain ⟨b,o,c,pre,hn,h1,h2,h3⟩:=h;exact ⟨b,o,c,pre,hn,h1.upd hu fun hx=>by have:=hX bp hx;omega,hu.lies h2 fun b' o' e _ hx=>by cases e;have:=hX _ hx;omega,h3⟩
theorem flat_len(l:List Tk):(l.flatMap tkC).length=l.length * 3:=by
 induction l with
 | nil=>rfl
 | cons t l ih=>rw [List.flatMap_cons,List.length_append,ih,List.length_cons];show 3+_=_;omega
theorem q4P(pre:List Tk)(t:Tk)(r:List Tk)(j:Nat)(hj:j < 3):((pre ++ t :: r).flatMap tkC)[pre.length * 3+j]?=(tkC t)[j]?:=by
 rw [List.flatMap_append,List.getElem?_append_right (by rw [flat_len];omega),flat_len,show pre.length * 3+j - pre.length * 3=j from V0,List.flatMap_cons,List.getElem?_append_left (by show j < 3;exact hj)]
theorem QS.head{w:World}{bp ba wy:Nat}{t:Tk}{r:List Tk}(h:QS w bp (t :: r) ba wy):∃ b o c n,b < bp/\n+(r.length+1)<=4000/\0<=c/\0<=c /\
  (w.cell? ⟨bp,0,none⟩=some (.slice (some ⟨b,o,none⟩) (n+(r.length+1)) c)/\w.cell? ⟨bp,1,none⟩=some (.int .i64 (n:Int))/\w.cell? ⟨bp,2,none⟩=some (.int .i64 (ba:Int))/\w.cell? ⟨bp,3,none⟩=some (.int .i64 (wy:Int))) /\
  (w.frozen? ⟨bp,0,none⟩=false/\w.frozen? ⟨bp,1,none⟩=false/\w.frozen? ⟨bp,2,none⟩=false/\w.frozen? ⟨bp,3,none⟩=false) /\
  w.cell? ⟨b,o+n * 3,none⟩=some (.int .i64 (t.k:Int))/\w.cell? ⟨b,o+n * 3+1,none⟩=some (.string ⟨t.s.toArray⟩)/\w.cell? ⟨b,o+n * 3+2,none⟩=some (.int .i64 (t.at_:Int)):=by
 obtain ⟨b,o,c,pre,hn,h1,h2,h5⟩:=h;have f0:=h2 (pre.length * 3+0) _ ((q4P pre t r 0 V2).trans rfl);have f1:=h2 (pre.length * 3+1) _ ((q4P pre t r 1 V2).trans rfl);have f2:=h2 (pre.length * 3+2) _ ((q4P pre t r 2 V2).trans rfl);obtain ⟨a0,e0,f0⟩:=f0;obtain ⟨a1,e1,f1⟩:=f1;obtain ⟨a2,e2,f2⟩:=f2;cases e0;cases e1;cases e2;rw [Args.add_plain] at f0 f1 f2;rw [<-Nat.add_assoc] at f0 f1 f2;exact ⟨b,o,c,pre.length,hn,h5,Nat.zero_le _,Nat.zero_le _,⟨h1.cell 0,h1.cell 1,h1.cell 2,h1.cell 3⟩,⟨h1.frozen 0,h1.frozen 1,h1.frozen 2,h1.frozen 3⟩,f0,f1,f2⟩
theorem QS.wrong{w:World}{bp ba wy:Nat}{l:List Tk}(h:QS w bp l ba wy)(ba' wy':Nat):QS ((w.setCell ⟨bp,2,none⟩ (.int .i64 (ba':Int))).setCell ⟨bp,3,none⟩ (.int .i64 (wy':Int))) bp l ba' wy':=by
 obtain ⟨b,o,c,pre,hn,h1,h2,h3⟩:=h;refine ⟨b,o,c,pre,hn,(h1.set 2 _).set 3 _,?_,h3⟩;exact (((Upd.refl (fun b=>b=bp) w).setCell (fun _=>rfl) _).setCell (fun _=>rfl) _).lies h2 fun b' o' e _ hx=>Vb
theorem QS.on{w:World}{bp ba wy n:Nat}{t:Tk}{r:List Tk}(h:QS w bp (t :: r) ba wy)(hn:w.cell? ⟨bp,1,none⟩=some (.int .i64 (n:Int))):QS (w.setCell ⟨bp,1,none⟩ (.int .i64 ((n:Int)+1))) bp r ba wy:=by
 obtain ⟨b,o,c,pre,hb,h1,h2,h5⟩:=h;have e:=h1.cell 1;rw [hn] at e;have e2:n=pre.length:=by simp at e;omega
 subst e2;refine ⟨b,o,c,pre ++ [t],hb,?_,?_,by simp at h5 ⊢;omega⟩
 ·have:=h1.set 1 (.int .i64 ((pre.length:Int)+1));have e3:(pre ++ [t]).length+r.length=pre.length+(t :: r).length:=V4;have e4:(((pre ++ [t]).length:Nat):Int)=(pre.length:Int)+1:=V3;rw [e3,e4];exact this
 ·rw [List.append_assoc];exact ((Upd.refl (fun b=>b=bp) w).setCell (fun _=>rfl) _).lies h2 fun b' o' e _ hx=>Vb
theorem tok(w:World)(bp ba wy:Nat)(t:Tk)(r:List Tk)(hp:QS w bp (t :: r) ba wy) :
  Calls Tryz.prog 25 #[.pointer (some ⟨bp,0,none⟩)] w fun e w'=>e = .returned (.agg #[.int .i64 (t.k:Int),.string ⟨t.s.toArray⟩,.int .i64 (t.at_:Int)])/\Below w.heap.size w w':=by
 obtain ⟨w0,hw0,hb0,hB⟩:=aS w #[.int .i64 0,.string ⟨#[]⟩,.int .i64 0] 63;obtain ⟨b,o,c,n,hn,hl,hc,hm,⟨c0,c1,c2,c3⟩,⟨z0,z1,z2,z3⟩,f4,f5,f6⟩:=(hp.below hb0).head;have hlt:=(hp.below hb0).lt;have hbl:b < w0.heap.size:=World.block_lt_of_cell? w0 _ f4;have hix:(n:Int) < (n:Int)+((r.length:Int)+1):=V0;have HN:=Hi hn;have HB0:=Hi hb0;have HB:=Hi hB;have HW:=Hi hw0;clear hn hp hb0 hB hw0;go_enter Tryz.func25,Tryz.ntmps25;go_wp2_with fail
 rw [HW.out]
 go_still_tail 10,V1
 change wpList _ _ _ _ _ w0.drew;have hdr:Below w0.heap.size w0 w0.drew:=q0l (Below.refl _ _) 1;have hB1:Aa w0.drew w.heap.size 63 #[.int .i64 0,.string ⟨#[]⟩,.int .i64 0]:=HB.out.below hdr HB.out.lt;have hb1:=HB0.out.trans (hdr.mono HB0.out.size);generalize w0.drew=w1 at hdr hB1 hb1 ⊢;clear c0 c1 c2 c3 z0 z1 z2 z3 f4 f5 f6 hdr;obtain ⟨e0,e1,e2,y0,y1,y2⟩:=Aa.c3 hB1;have H1:=Hi hB1;have HB1:=Hi hb1;clear hB1 hb1;go_wp2_with fail
 refine bodyPost_ret (resTk rfl rfl (Aa.put3 H1.out _ _ _) rfl) rfl ⟨rfl,?_⟩;exact ((HB1.out.setCell (Nat.le_refl _) _).setCell (Nat.le_refl _) _).setCell (Nat.le_refl _) _
end
section
attribute [local go_sem] bH bI bJ
abbrev vd:Ending:=.returned (.tuple #[])
theorem q0n(w:World)(bp ba wy er:Nat)(b:Bool)(t:Tk)(r:List Tk)(hp:QS w bp (t :: r) ba wy)(hb:b=false\/wy≠0) :
  Calls Tryz.prog 58 #[.pointer (some ⟨bp,0,none⟩),.bool b,.int .i64 (er:Int)] w fun e w'=>e=vd/\w=w':=by
 obtain ⟨b',o,c,n,hn,hl,hc,hm,⟨c0,c1,c2,c3⟩,⟨z0,z1,z2,z3⟩,f4,f5,f6⟩:=hp.head;have hlt:=hp.lt;have HN:=Hi hn;clear hn hp;rcases hb with rfl | hb
 ·go_enter Tryz.func58,Tryz.ntmps58;go_wp2_with fail
  first | go_end0 | skip
  all_goals first | exact ⟨rfl,rfl⟩ | refine bodyPost_ret (results_none rfl _ _ _) rfl ⟨rfl,rfl⟩
 ·have hz:((wy:Int)==0)=false:=by simp;omega
  cases b
  all_goals
   go_enter Tryz.func58,Tryz.ntmps58;go_wp2_with fail
   first | go_end0 | skip
   all_goals first | exact ⟨rfl,rfl⟩ | refine bodyPost_ret (results_none rfl _ _ _) rfl ⟨rfl,rfl⟩
theorem q1A(w:World)(bp er:Nat)(t:Tk)(r:List Tk)(hp:QS w bp (t :: r) 0 0) :
  Calls Tryz.prog 58 #[.pointer (some ⟨bp,0,none⟩),.bool true,.int .i64 (er:Int)] w fun e w'=>e=vd/\QS w' bp (t :: r) t.at_ er/\UB bp w w':=by
 obtain ⟨b',o,c,n,hn,hl,hc,hm,⟨c0,c1,c2,c3⟩,⟨z0,z1,z2,z3⟩,f4,f5,f6⟩:=hp.head;have hlt:=hp.lt;have HT:=Hi (tok w bp 0 0 t r hp);have HP:=Hi hp;clear hn hp;go_enter Tryz.func58,Tryz.ntmps58;go_wp2_with fail
 refine HT.out.mono ?_;rintro e w1 ⟨rfl,hb1⟩;obtain ⟨b',o,c,n,hn,hl,hc,hm,⟨c0,c1,c2,c3⟩,⟨z0,z1,z2,z3⟩,f4,f5,f6⟩:=(HP.out.below hb1).head;have Be:=Hi (HP.out.below hb1);have Aj:=Hi (q01 (bp:=bp) hb1);have hlt1:=(HP.out.below hb1).lt;clear hb1 hn;go_wp2_with fail
 first | go_end0 | skip
 all_goals first | refine ⟨rfl,?_,?_⟩ | refine bodyPost_ret (results_none rfl _ _ _) rfl ⟨rfl,?_,?_⟩
 ·exact Be.out.wrong _ _
 ·exact (Aj.out.setCell (fun _=>rfl) _).setCell (fun _=>rfl) _
theorem q74(w:World)(bp ba wy:Nat)(t:Tk)(r:List Tk)(hp:QS w bp (t :: r) ba wy)(hb:wy≠0) :
  Calls Tryz.prog 91 #[.pointer (some ⟨bp,0,none⟩)] w fun e w'=>e=vd/\Below w.heap.size w w':=by
 obtain ⟨b',o,c,n,hn,hl,hc,hm,⟨c0,c1,c2,c3⟩,⟨z0,z1,z2,z3⟩,f4,f5,f6⟩:=hp.head;have hlt:=hp.lt;have hz:((wy:Int)==0)=false:=V4;clear hn hp;go_enter Tryz.func91,Tryz.ntmps91;go_wp2_with fail
 go_quiet (fail)
 go_wp2_with fail
 first | go_end0 | skip
 all_goals first | exact ⟨rfl,q0l (Below.refl _ _) _⟩ | refine bodyPost_ret (results_none rfl _ _ _) rfl ⟨rfl,q0l (Below.refl _ _) _⟩
theorem q2o(w:World)(bp:Nat)(t:Tk)(r:List Tk)(hp:QS w bp (t :: r) 0 0)(hr:r≠[]) :
  Calls Tryz.prog 91 #[.pointer (some ⟨bp,0,none⟩)] w fun e w'=>e=vd/\QS w' bp r 0 0/\UB bp w w':=by
 obtain ⟨b',o,c,n,hn,hl,hc,hm,⟨c0,c1,c2,c3⟩,⟨z0,z1,z2,z3⟩,f4,f5,f6⟩:=hp.head;have hlt:=hp.lt;have HO:=Hi fun k:Nat=>(hp.below (q0l (Below.refl _ _) k)).on (n:=n) (show (w.drewN k).cell? ⟨bp,1,none⟩=_ from c1)
 have hrl:0 < r.length:=List.length_pos_iff.2 hr;clear hn hp hr;go_enter Tryz.func91,Tryz.ntmps91;go_wp2_with fail
 go_quiet (fail)
 go_wp2_with fail
 first | go_end0 | skip
 all_goals first | refine ⟨rfl,?_,?_⟩ | refine bodyPost_ret (results_none rfl _ _ _) rfl ⟨rfl,?_,?_⟩
 ·exact HO.out _
 ·exact (q01 (bp:=bp) (q0l (Below.refl _ _) _)).setCell (fun _=>rfl) _
theorem q03(w:World)(bp ba wy:Nat)(t:Tk)(r:List Tk)(b:Bs)(hp:QS w bp (t :: r) ba wy)(hb:wy≠0\/ak b t=false) :
  Calls Tryz.prog 53 #[.pointer (some ⟨bp,0,none⟩),.string ⟨b.toArray⟩] w fun e w'=>e = .returned (.bool false)/\Below w.heap.size w w':=by
 have HT:=Hi (tok w bp ba wy t r hp);have HP:=Hi hp;have hlt:=hp.lt;have hc:wy≠0\/(wy = 0/\t.k<=2)\/(wy = 0/\2 < t.k/\(t.s==b)=false):=by
  by_cases h0:wy = 0
  ·rcases hb with hb | hb
   ·exact absurd h0 hb
   ·unfold ak at hb;by_cases h2:2 < t.k
    ·exact .inr (.inr ⟨h0,h2,by simpa [h2] using hb⟩)
    ·exact .inr (.inl ⟨h0,V0⟩)
  ·exact .inl h0
 clear hp hb;rcases hc with h | ⟨rfl,h⟩ | ⟨rfl,h,h3⟩
 ·have hz:((wy:Int)==0)=false:=by simp;omega
  exact V1b
 ·exact V1b
 ·exact V1b
theorem q0p(w:World)(bp:Nat)(t:Tk)(r:List Tk)(b:Bs)(hp:QS w bp (t :: r) 0 0)(hb:ak b t=true)(hr:r≠[]) :
  Calls Tryz.prog 53 #[.pointer (some ⟨bp,0,none⟩),.string ⟨b.toArray⟩] w fun e w'=>e = .returned (.bool true)/\QS w' bp r 0 0/\UB bp w w':=by
 have HT:=Hi (tok w bp 0 0 t r hp);have HP:=Hi hp;have hlt:=hp.lt;have HR:=Hi hr;unfold ak at hb;simp only [Bool.and_eq_true,decide_eq_true_eq] at hb;obtain ⟨h2,h3⟩:=hb;clear hp hr;go_enter Tryz.func53,Tryz.ntmps53;go_wp2_with fail
 refine HT.out.mono ?_;rintro e w1 ⟨rfl,hb1⟩;obtain ⟨b',o,c,n,hn,hl,hc,hm,⟨c0,c1,c2,c3⟩,⟨z0,z1,z2,z3⟩,f4,f5,f6⟩:=(HP.out.below hb1).head;have hlt1:=(HP.out.below hb1).lt;have HB1:=Hi hb1;have HO:=Hi fun (w2:World) (h:Below w1.heap.size w1 w2)=>q2o w2 bp t r ((HP.out.below hb1).below h) HR.out
 clear hb1 hn;go_wp2_with fail
 refine (HO.out _ ((Below.refl _ _).alloc (Nat.le_refl _) _)).mono ?_;rintro e w2 ⟨rfl,hp2,hu2⟩;have Ar:=Hi hp2;have Ai:=Hi (((q01 (bp:=bp) HB1.out).alloc _).trans hu2);clear hp2 hu2;go_wp2_with fail
 go_ret;exact ⟨rfl,Ar.out,Ai.out⟩
end
section
attribute [local go_sem] bH bI bJ
theorem q2Z(w:World)(bp ba wy:Nat)(t:Tk)(r:List Tk)(b:Bs)(hp:QS w bp (t :: r) ba wy)(hw:wy≠0) :
  Calls Tryz.prog 55 #[.pointer (some ⟨bp,0,none⟩),.string ⟨b.toArray⟩] w fun e w'=>e=vd/\Below w.heap.size w w':=by
 have HG:=Hi (q03 w bp ba wy t r b hp (.inl hw));have HP:=Hi hp;have HZ:=Hi hw;clear hp hw;go_enter Tryz.func55,Tryz.ntmps55;go_wp2_with fail
 refine HG.out.mono ?_;rintro e w1 ⟨rfl,hb1⟩;have HB:=Hi (q0n w1 bp ba wy 100 true t r (HP.out.below hb1) (.inr HZ.out));have HB1:=Hi hb1;clear hb1;go_wp2_with fail
 refine HB.out.mono ?_;rintro e w2 ⟨rfl,rfl⟩;go_wp2_with fail
 first | go_end0 | skip
 all_goals first | exact ⟨rfl,HB1.out⟩ | refine bodyPost_ret (results_none rfl _ _ _) rfl ⟨rfl,HB1.out⟩
theorem must_no(w:World)(bp:Nat)(t:Tk)(r:List Tk)(b:Bs)(hp:QS w bp (t :: r) 0 0)(hb:ak b t=false) :
  Calls Tryz.prog 55 #[.pointer (some ⟨bp,0,none⟩),.string ⟨b.toArray⟩] w fun e w'=>e=vd/\QS w' bp (t :: r) t.at_ 100/\UB bp w w':=by
 have HG:=Hi (q03 w bp 0 0 t r b hp (.inr hb));have HP:=Hi hp;clear hp hb;go_enter Tryz.func55,Tryz.ntmps55;go_wp2_with fail
 refine HG.out.mono ?_;rintro e w1 ⟨rfl,hb1⟩;have HB:=Hi (q1A w1 bp 100 t r (HP.out.below hb1));have Aj:=Hi (q01 (bp:=bp) hb1);clear hb1;go_wp2_with fail
 refine HB.out.mono ?_;rintro e w2 ⟨rfl,hp2,hu2⟩;have Ar:=Hi hp2;have Ai:=Hi (Aj.out.trans hu2);clear hp2 hu2;go_wp2_with fail
 first | go_end0 | skip
 all_goals first | exact ⟨rfl,Ar.out,Ai.out⟩ | refine bodyPost_ret (results_none rfl _ _ _) rfl ⟨rfl,Ar.out,Ai.out⟩
theorem QS.cons{w:World}{bp ba wy:Nat}{l:List Tk}(h:QS w bp l ba wy)(hl:l≠[]):∃ t r,l=t :: r:=by
 cases l with
 | nil=>exact absurd rfl hl
 | cons t r=>exact ⟨t,r,rfl⟩
theorem must_yes(w:World)(bp:Nat)(t:Tk)(r:List Tk)(b:Bs)(hp:QS w bp (t :: r) 0 0)(hb:ak b t=true)(hr:r≠[]) :
  Calls Tryz.prog 55 #[.pointer (some ⟨bp,0,none⟩),.string ⟨b.toArray⟩] w fun e w'=>e=vd/\QS w' bp r 0 0/\UB bp w w':=by
 have HG:=Hi (q0p w bp t r b hp hb hr);obtain ⟨u,q,rfl⟩:=List.exists_cons_of_ne_nil hr;clear hp hb hr;go_enter Tryz.func55,Tryz.ntmps55;go_wp2_with fail
 refine HG.out.mono ?_;rintro e w1 ⟨rfl,hp1,hu1⟩;have HB:=Hi (q0n w1 bp 0 0 100 false u q hp1 (.inl rfl));have Aj:=Hi hu1;have Be:=Hi hp1;clear hu1 hp1;go_wp2_with fail
 refine HB.out.mono ?_;rintro e w2 ⟨rfl,rfl⟩;go_wp2_with fail
 first | go_end0 | skip
 all_goals first | exact ⟨rfl,Be.out,Aj.out⟩ | refine bodyPost_ret (results_none rfl _ _ _) rfl ⟨rfl,Be.out,Aj.out⟩
theorem q4w(w:World)(bp ba wy:Nat)(t:Tk)(r:List Tk)(hp:QS w bp (t :: r) ba wy)(hw:wy≠0) :
  Calls Tryz.prog 56 #[.pointer (some ⟨bp,0,none⟩)] w fun e w'=>e = .returned (.string ⟨t.s.toArray⟩)/\Below w.heap.size w w':=by
 have HT:=Hi fun (w':World) (h:Below w.heap.size w w')=>tok w' bp ba wy t r (hp.below h)
 have HP:=Hi hp;have HZ:=Hi hw;clear hp hw;go_enter Tryz.func56,Tryz.ntmps56;go_wp2_with fail
 refine (HT.out _ (Below.refl _ _)).mono ?_;rintro e w1 ⟨rfl,hb1⟩;have HT1:=Hi (HT.out w1 hb1);have HB1:=Hi hb1;clear hb1;go_wp2_with fail
 refine HT1.out.mono ?_;rintro e w2 ⟨rfl,hb2⟩;have hb2':=HB1.out.trans (hb2.mono HB1.out.size);have HB2:=Hi hb2';have Az:=Hi fun b:Bool=>q0n w2 bp ba wy 100 b t r (HP.out.below hb2') (.inr HZ.out)
 have HON:=Hi (q74 w2 bp ba wy t r (HP.out.below hb2') HZ.out);clear hb2 hb2' HT HT1;go_wp2_with fail
 all_goals
  refine (Az.out _).mono ?_;rintro e w' ⟨rfl,rfl⟩;go_wp2_with fail
  refine HON.out.mono ?_;rintro e w3 ⟨rfl,hb3⟩;have HB3:=Hi (HB2.out.trans (hb3.mono HB2.out.size));clear hb3;go_wp2_with fail
  go_ret;exact ⟨rfl,HB3.out⟩
theorem name_no(w:World)(bp:Nat)(t:Tk)(r:List Tk)(hp:QS w bp (t :: r) 0 0)(hk:t.k≠1) :
  Calls Tryz.prog 56 #[.pointer (some ⟨bp,0,none⟩)] w fun e w'=>e = .returned (.string ⟨t.s.toArray⟩)/\QS w' bp (t :: r) t.at_ 100/\UB bp w w':=by
 have HT:=Hi fun (w':World) (h:Below w.heap.size w w')=>tok w' bp 0 0 t r (hp.below h)
 have HP:=Hi hp;have hq:((t.k:Int) != 1)=true:=V4;have hq2:((t.k:Int)==1)=false:=V4;clear hp hk;go_enter Tryz.func56,Tryz.ntmps56;go_wp2_with fail
 refine (HT.out _ (Below.refl _ _)).mono ?_;rintro e w1 ⟨rfl,hb1⟩;have HT1:=Hi (HT.out w1 hb1);have HB1:=Hi hb1;clear hb1;go_wp2_with fail
 refine HT1.out.mono ?_;rintro e w2 ⟨rfl,hb2⟩;have hb2':=HB1.out.trans (hb2.mono HB1.out.size);have HB2:=Hi hb2';have Az:=Hi (q1A w2 bp 100 t r (HP.out.below hb2'));clear hb2 hb2' HT HT1;go_wp2_with fail
 refine Az.out.mono ?_;rintro e w3 ⟨rfl,hp3,hu3⟩;have HON:=Hi (q74 w3 bp t.at_ 100 t r hp3 V2);have HP3:=Hi hp3;have Aw:=Hi ((q01 (bp:=bp) HB2.out).trans hu3);clear hp3 hu3;go_wp2_with fail
 refine HON.out.mono ?_;rintro e w4 ⟨rfl,hb4⟩;have HP4:=Hi (HP3.out.below hb4);have AO:=Hi (Aw.out.trans (q01 hb4));clear hb4;go_wp2_with fail
 go_ret;exact ⟨rfl,HP4.out,AO.out⟩
theorem name_yes(w:World)(bp:Nat)(t:Tk)(r:List Tk)(hp:QS w bp (t :: r) 0 0)(hk:t.k = 1)(hr:r≠[]) :
  Calls Tryz.prog 56 #[.pointer (some ⟨bp,0,none⟩)] w fun e w'=>e = .returned (.string ⟨t.s.toArray⟩)/\QS w' bp r 0 0/\UB bp w w':=by
 have hT:∀ (w':World) (h:Below w.heap.size w w'),_:=fun w' h=>tok w' bp 0 0 t r (hp.below h)
 rw [hk] at hT;have HT:=Hi hT;have HP:=Hi hp;have HR:=Hi hr;clear hp hk hr hT;go_enter Tryz.func56,Tryz.ntmps56;go_wp2_with fail
 refine (HT.out _ (Below.refl _ _)).mono ?_;rintro e w1 ⟨rfl,hb1⟩;have HT1:=Hi (HT.out w1 hb1);have HB1:=Hi hb1;clear hb1;go_wp2_with fail
 refine HT1.out.mono ?_;rintro e w2 ⟨rfl,hb2⟩;have hb2':=HB1.out.trans (hb2.mono HB1.out.size);have HB2:=Hi hb2';have Az:=Hi (q0n w2 bp 0 0 100 false t r (HP.out.below hb2') (.inl rfl));have HON:=Hi (q2o w2 bp t r (HP.out.below hb2') HR.out);clear hb2 hb2' HT HT1;go_wp2_with fail
 refine Az.out.mono ?_;rintro e w' ⟨rfl,rfl⟩;go_wp2_with fail
 refine HON.out.mono ?_;rintro e w3 ⟨rfl,hp3,hu3⟩;have HP3:=Hi hp3;have Aw:=Hi ((q01 (bp:=bp) HB2.out).trans hu3);clear hp3 hu3;go_wp2_with fail
 go_ret;exact ⟨rfl,HP3.out,Aw.out⟩
end
end Pq
namespace Num
open Go.ChangeShapes Go.WideShapes Go.ChangeAt Go.RowKit
def DL:ByteArray:=⟨#[48,49,50,51,52,53,54,55,56,57,97,98,99,100,101,102,65,66,67,68,69,70]⟩
def dlN(k:Nat):Nat:=((DL[k]?).getD 0).toNat
theorem dl_at(k:Nat)(h:k < DL.size):(DL[k]'h).toNat=dlN k:=by
 unfold dlN;rw [getElem?_pos DL k h];rfl
def dTo(c:Nat):Nat->Nat
 | 0=>99
 | k+1=>if dlN k=c then (if 15 < k then k - 6 else k) else dTo c k
theorem q75(c:Nat)(hc:c < 256):dTo c 22=if dvN c = 16 then 99 else dvN c:=by
 have:∀ i:Fin 256,dTo i.val 22=if dvN i.val = 16 then 99 else dvN i.val:=by decide +kernel
 exact this ⟨c,hc⟩
def byteN(s:ByteArray)(i:Nat):Nat:=((s.data.toList)[i]?.getD 0).toNat
theorem q5s(s:ByteArray)(i:Nat)(h:i < s.size):byteN s i=(s[i]'h).toNat:=by
 have h':i < s.data.toList.length:=Va;unfold byteN;rw [List.getElem?_eq_getElem h'];rfl
def preB(s:ByteArray):Bool:=decide (1 < s.size) && (decide (byteN s 0 = 48) && decide (byteN s 1 = 120))
theorem idx_dl(j:Nat)(hj:j < 22)(w:World):(Instr.index 9 (.string ⟨#[48,49,50,51,52,53,54,55,56,57,97,98,99,100,101,102,65,66,67,68,69,70]⟩) (.int .i64 (j:Int))).run Tryz.prog w = .ok (.int .u8 ((dlN j:Nat):Int)) w:=by
 have hs:DL.size = 22:=V2;show (Instr.index 9 (.string DL) (.int .i64 (j:Int))).run Tryz.prog w=_;rw [run_index_string w 9 DL .i64 j Tryz.underlying9,dif_pos ⟨V0,by rw [hs];omega⟩];have e:((j:Int)).toNat=j:=V0;simp only [e];rw [dl_at j (by rw [hs];exact hj)]
theorem idx_s(s:ByteArray)(k:Nat)(hk:k < s.size)(w:World):(Instr.index 9 (.string s) (.int .i64 (k:Int))).run Tryz.prog w = .ok (.int .u8 ((s[k].toNat:Nat):Int)) w:=by
 rw [run_index_string w 9 s .i64 k Tryz.underlying9,dif_pos ⟨V0,V0⟩];have e:((k:Int)).toNat=k:=V0;simp only [e]
theorem q25(base:Nat)(s:ByteArray)(a:Nat)(h:s.size=a):numR base (s.data.toList.drop a)=(0,4):=by
 rw [List.drop_of_length_le V4];rfl
theorem q3N(s:ByteArray)(a:Nat)(h:a < s.size):s.data.toList.drop a≠[]:=by
 intro e;have:=congrArg List.length e;simp at this;omega
theorem numR_none'(base:Nat)(L:List UInt8)(h:L≠[])(hr:nrun base L 0=none):numR base L=(0,4):=by
 unfold numR;rw [if_neg h,hr]
theorem numR_some'(base:Nat)(L:List UInt8)(n:Nat)(h:L≠[])(hr:nrun base L 0=some n):numR base L=if n = 4294967296 then (0,2) else (n,0):=by
 unfold numR;rw [if_neg h,hr]
theorem q88(s:ByteArray){hex:Bool}(h:preB s=hex):hex=true->2<=s.size:=by
 intro e;subst e;unfold preB at h;simp at h;omega
theorem rnumC(hex:Bool)(s:ByteArray)(w:World)(hp:preB s=hex)(hsz:s.size<=maxLen) :
  Calls Tryz.prog 141 #[.string s] w fun e w'=>e = .returned (resN (numR (if hex then 16 else 10) (s.data.toList.drop (if hex then 2 else 0))))/\∃ m,w'=w.drewN m:=by
 unfold maxLen at hsz;have HP:=Hi hp;clear hp;go_enter Tryz.func141,Tryz.ntmps141;go_upto_region 2 with fail
 go_cut [24] (fun v wx=>v = .bool hex/\w=wx)
 case first=>
  by_cases h1:1 < s.size
  ·have b0:=q5s s 0 V0;have b1:=q5s s 1 h1;have c0:s[0].toNat < 256:=s[0].toNat_lt;have c1:s[1].toNat < 256:=s[1].toNat_lt;by_cases h2:s[0].toNat = 48
   ·have e2:((s[0].toNat:Int)==48)=true:=by simp [h2]
    by_cases h3:s[1].toNat = 120
    ·have e3:((s[1].toNat:Int)==120)=true:=by simp [h3]
     have hfin:preB s=true:=by unfold preB;rw [b0,b1,h2,h3];simp [h1]
     have HF:=Hi hfin;clear hfin b0 b1 h2 h3;exact V0L
    ·have e3:((s[1].toNat:Int)==120)=false:=by simp;omega
     have hfin:preB s=false:=by unfold preB;rw [b0,b1];simp [h3]
     have HF:=Hi hfin;clear hfin b0 b1 h2 h3;exact V0L
   ·have e2:((s[0].toNat:Int)==48)=false:=by simp;omega
    have hfin:preB s=false:=by unfold preB;rw [b0,b1];simp [h2]
    have HF:=Hi hfin;clear hfin b0 b1 h2;exact V0L
  ·have hfin:preB s=false:=by unfold preB;simp [h1]
   have HF:=Hi hfin;clear hfin;exact V0L
 case rest=>
  obtain ⟨rfl,rfl⟩:=hcut;have hsz2:=q88 s HP.out;cases hex
  ·clear hsz2
   go_wp2
   go_loopw [6,7,9] (fun vn vl vi wr=>∃ k n m:Nat,0<=k/\k<=s.size/\vi = .int .i64 k/\vn = .int .u64 n/\vl = .bool (decide (4294967296<=n))/\n<=4294967296/\Hid (nrun 10 (s.data.toList.drop 0) 0=nrun 10 (s.data.toList.drop k) n)/\wr=w.drewN m) (fun _ _ vi _=>s.size - (intOf vi).toNat)
   case atStart=>exact ⟨0,0,0,V0,V0,rfl,rfl,rfl,V0,Hi rfl,rfl⟩
   case round=>
    obtain ⟨k,n,m,hk0,hk,rfl,rfl,rfl,hn,HI,rfl⟩:=hrel;by_cases hlt:k < s.size
    ·have hsx:=idx_s s k hlt;have hc:=s[k].toNat_lt;have hst:=q20 10 s k n hlt;have hno:=q21 10 s k n hlt;generalize s[k].toNat=c at hsx hc hst hno;have HST:=Hi hst;have HNO:=Hi hno;clear hst hno;go_wp2_with fail
     go_loopw [10,11] (fun vd vj wr=>∃ j q:Nat,j<=22/\vj = .int .i64 j/\vd = .int .u64 ((dTo c j:Nat):Int)/\wr=w.drewN q) (fun _ vj _=>22 - (intOf vj).toNat)
     case atStart=>exact ⟨0,m,V0,rfl,rfl,rfl⟩
     case round=>
      obtain ⟨j,q,hj,rfl,rfl,rfl⟩:=hrel;by_cases hj22:j < 22
      ·exact V2g
      ·have:j = 22:=by omega
       subst this;have hT:=q75 c hc;generalize dTo c 22=e0 at hT ⊢;have hdl:=q57 c;by_cases hd:dvN c < 10
       ·rw [if_neg V0] at hT;have HS:=HST.out hd;subst hT;generalize dvN c=d at hd hdl HS ⊢;have HS':=Hi HS;clear HS;by_cases hbig:4294967296<=n * 10+d
        ·exact V2N
        ·go_wp2
         go_roundw
         case rel=>exact ⟨k+1,n * 10+d,q,V0,V0,V7,V7,V4m,V0,Hi V4n,rfl⟩
         case measure=>simp [intOf];omega
       ·have hno:=HNO.out hd;rw [<-HI.out] at hno;have he:10<=e0:=by split at hT <;> omega
        have hfin:=numR_none' 10 _ (q3N s 0 V0) hno;have HF:=Hi hfin;clear hT hno hfin hd hdl
        go_wp2
        go_ret2
        exact ⟨V3L,q,rfl⟩
    ·have:k=s.size:=by omega
     subst this;have hI:=HI.out;rw [q2x] at hI;by_cases h0:s.size = 0
     ·have hfin:=q25 10 s 0 h0;have e0:((0:Int)==(s.size:Int))=true:=V4;have HF:=Hi hfin;clear hfin hI HI h0;exact V1j
     ·have hfin:=numR_some' 10 _ n (q3N s 0 V0) hI;have e0:((0:Int)==(s.size:Int))=false:=V4;by_cases hl:4294967296<=n
      ·rw [if_pos V0] at hfin;have HF:=Hi hfin;clear hfin hI HI;exact V1j
      ·rw [if_neg V0] at hfin;have HF:=Hi hfin;clear hfin hI HI;exact V1j
  ·have hsz3:=hsz2 rfl;clear hsz2
   go_wp2
   go_loopw [6,7,9] (fun vn vl vi wr=>∃ k n m:Nat,2<=k/\k<=s.size/\vi = .int .i64 k/\vn = .int .u64 n/\vl = .bool (decide (4294967296<=n))/\n<=4294967296/\Hid (nrun 16 (s.data.toList.drop 2) 0=nrun 16 (s.data.toList.drop k) n)/\wr=w.drewN m) (fun _ _ vi _=>s.size - (intOf vi).toNat)
   case atStart=>exact ⟨2,0,0,V0,V0,rfl,rfl,rfl,V0,Hi rfl,rfl⟩
   case round=>
    obtain ⟨k,n,m,hk0,hk,rfl,rfl,rfl,hn,HI,rfl⟩:=hrel;by_cases hlt:k < s.size
    ·have hsx:=idx_s s k hlt;have hc:=s[k].toNat_lt;have hst:=q20 16 s k n hlt;have hno:=q21 16 s k n hlt;generalize s[k].toNat=c at hsx hc hst hno;have HST:=Hi hst;have HNO:=Hi hno;clear hst hno;go_wp2_with fail
     go_loopw [10,11] (fun vd vj wr=>∃ j q:Nat,j<=22/\vj = .int .i64 j/\vd = .int .u64 ((dTo c j:Nat):Int)/\wr=w.drewN q) (fun _ vj _=>22 - (intOf vj).toNat)
     case atStart=>exact ⟨0,m,V0,rfl,rfl,rfl⟩
     case round=>
      obtain ⟨j,q,hj,rfl,rfl,rfl⟩:=hrel;by_cases hj22:j < 22
      ·exact V2g
      ·have:j = 22:=by omega
       subst this;have hT:=q75 c hc;generalize dTo c 22=e0 at hT ⊢;have hdl:=q57 c;by_cases hd:dvN c < 16
       ·rw [if_neg V0] at hT;have HS:=HST.out hd;subst hT;generalize dvN c=d at hd hdl HS ⊢;have HS':=Hi HS;clear HS;by_cases hbig:4294967296<=n * 16+d
        ·exact V2N
        ·go_wp2
         go_roundw
         case rel=>exact ⟨k+1,n * 16+d,q,V0,V0,V7,V7,V4m,V0,Hi V4n,rfl⟩
         case measure=>simp [intOf];omega
       ·have hno:=HNO.out hd;rw [<-HI.out] at hno;have he:16<=e0:=by split at hT <;> omega
        have hfin:=numR_none' 16 _ (q3N s 2 V0) hno;have HF:=Hi hfin;clear hT hno hfin hd hdl
        go_wp2
        go_ret2
        exact ⟨V3M,q,rfl⟩
    ·have:k=s.size:=by omega
     subst this;have hI:=HI.out;rw [q2x] at hI;by_cases h0:s.size = 2
     ·have hfin:=q25 16 s 2 h0;have e0:((2:Int)==(s.size:Int))=true:=V4;have HF:=Hi hfin;clear hfin hI HI h0;exact V1i
     ·have hfin:=numR_some' 16 _ n (q3N s 2 V0) hI;have e0:((2:Int)==(s.size:Int))=false:=V4;by_cases hl:4294967296<=n
      ·rw [if_pos V0] at hfin;have HF:=Hi hfin;clear hfin hI HI;exact V1i
      ·rw [if_neg V0] at hfin;have HF:=Hi hfin;clear hfin hI HI;exact V1i
theorem pre_eq(s:ByteArray):Lib.hasPrefix s.data.toList [48,120]=preB s:=by
 have hz:s.data.toList.length=s.size:=V3;unfold Lib.hasPrefix preB byteN;rw [<-hz]
 match s.data.toList with
 | []=>rfl
 | [a]=>simp [List.isPrefixOf]
 | a :: b :: l=>
  have h8:∀ x y:UInt8,(x==y)=decide (y.toNat=x.toNat):=fun x y=>by
   rw [Bool.eq_iff_iff,beq_iff_eq,decide_eq_true_iff];exact ⟨fun h=>by rw [h],fun h=>(UInt8.toNat_inj.1 h).symm⟩
  simp [List.isPrefixOf,h8]
end Num
namespace Pq
open Go Go.ChangeShapes Go.WideShapes Go.ChangeAt Go.RowKit Lx Args Pa
section
attribute [local go_sem] bH bI bJ
def AU(w:World)(bp:Nat)(l:List Tk)(R:Out->Prop)(e:Ending)(w':World):Prop:=
 ∃ k a s n A la cA B lb cB,e = .returned (.agg #[.int .i64 (k:Nat),.string ⟨(s:Bs).toArray⟩,.int .u32 (n:Nat),.int .i64 (a:Nat),.slice A la cA,.slice B lb cB])/\UB bp w w' /\
  ((∃ x r,Ak (fun b=>w.heap.size<=b) w' x (bG k a s n A la cA B lb cB)/\R (.ok [x] r)/\QS w' bp r 0 0/\Gt r/\r.length < l.length)\/(∃ ba er t r,er≠0/\R (.bad ba er)/\QS w' bp (t :: r) ba er))
theorem AU.imp{w:World}{bp:Nat}{l:List Tk}{R R':Out->Prop}{e:Ending}{w':World}(h:AU w bp l R e w')(hR:∀ o,R o->R' o):AU w bp l R' e w':=by
 obtain ⟨k,a,s,n,A,la,cA,B,lb,cB,h1,h2,h3⟩:=h;refine ⟨k,a,s,n,A,la,cA,B,lb,cB,h1,h2,?_⟩;rcases h3 with ⟨x,r,g1,g2,g3⟩ | ⟨ba,er,t,r,g1,g2,g3⟩
 ·exact .inl ⟨x,r,g1,hR _ g2,g3⟩
 ·exact .inr ⟨ba,er,t,r,g1,hR _ g2,g3⟩
theorem tup{lo lo':Nat}{w:World}{x:Tr}{c:List Value}(h:Ak (fun b=>lo<=b) w x c)(hl:lo'<=lo):Ak (fun b=>lo'<=b) w x c:=h.mono fun b hb _=>Nat.le_trans hl hb
theorem tfar{X:Nat->Prop}{lo:Nat}{w w':World}{x:Tr}{c:List Value}(h:Ak (fun b=>lo<=b) w x c)(hu:Upd X w w')(hX:∀ b,X b->b < lo):Ak (fun b=>lo<=b) w' x c:=h.upd hu fun b hb hx=>V11
theorem q5E{w w1:World}{bp lo:Nat}{l r:List Tk}{R:Out->Prop}{k a n la cA lb cB:Nat}{s:Bs}{A B:Option Addr}{x:Tr}(hlt:bp < w.heap.size)(hg:w.heap.size < lo)(hT:Ak (fun b=>lo<=b) w1 x (bG k a s n A la cA B lb cB))(hR:R (.ok [x] r))(hP:QS w1 bp r 0 0)(hG:Gt r)(hr:r.length < l.length)(hU:UB bp w w1) :
  AU w bp l R (.returned (.agg #[.int .i64 (k:Int),.string ⟨s.toArray⟩,.int .u32 (n:Int),.int .i64 (a:Int),.slice A la cA,.slice B lb cB])) (az w1 w.heap.size (.int .i64 (k:Int)) (.string ⟨s.toArray⟩) (.int .u32 (n:Int)) (.int .i64 (a:Int)) (.slice A la cA) (.slice B lb cB)):=by
 have hu:Upd (fun b=>b=w.heap.size) w1 (az w1 w.heap.size (.int .i64 (k:Int)) (.string ⟨s.toArray⟩) (.int .u32 (n:Int)) (.int .i64 (a:Int)) (.slice A la cA) (.slice B lb cB)):=q09 (X:=fun b=>b=w.heap.size) (Upd.refl _ _) (fun _=>rfl) _ _ _ _ _ _;refine ⟨k,a,s,n,A,la,cA,B,lb,cB,rfl,q09 hU (fun h=>absurd h (Nat.lt_irrefl _)) _ _ _ _ _ _,.inl ⟨x,r,?_,hR,hP.far hu fun b hb=>V0,hG,hr⟩⟩;exact tup (tfar hT hu fun b hb=>V0) (Nat.le_of_lt hg)
theorem q1e{w w1:World}{bp ba er:Nat}{l r:List Tk}{t:Tk}{R:Out->Prop}(k a n la cA lb cB:Nat)(s:Bs)(A B:Option Addr)(hlt:bp < w.heap.size)(he:er≠0)(hR:R (.bad ba er))(hP:QS w1 bp (t :: r) ba er)(hU:UB bp w w1) :
  AU w bp l R (.returned (.agg #[.int .i64 (k:Int),.string ⟨s.toArray⟩,.int .u32 (n:Int),.int .i64 (a:Int),.slice A la cA,.slice B lb cB])) (az w1 w.heap.size (.int .i64 (k:Int)) (.string ⟨s.toArray⟩) (.int .u32 (n:Int)) (.int .i64 (a:Int)) (.slice A la cA) (.slice B lb cB)):=by
 have hu:Upd (fun b=>b=w.heap.size) w1 (az w1 w.heap.size (.int .i64 (k:Int)) (.string ⟨s.toArray⟩) (.int .u32 (n:Int)) (.int .i64 (a:Int)) (.slice A la cA) (.slice B lb cB)):=q09 (X:=fun b=>b=w.heap.size) (Upd.refl _ _) (fun _=>rfl) _ _ _ _ _ _;exact ⟨k,a,s,n,A,la,cA,B,lb,cB,rfl,q09 hU (fun h=>absurd h (Nat.lt_irrefl _)) _ _ _ _ _ _,.inr ⟨ba,er,t,r,he,hR,hP.far hu fun b hb=>V0⟩⟩
abbrev zNd:Array Value:=#[.int .i64 0,.string ⟨#[]⟩,.int .u32 0,.int .i64 0,.slice none 0 0,.slice none 0 0]
theorem node(w:World)(k a:Nat)(s:Bs)(A:Option Addr)(la cA:Nat) :
  Calls Tryz.prog 24 #[.int .i64 (k:Int),.int .i64 (a:Int),.string ⟨s.toArray⟩,.slice A la cA] w fun e w'=>
   e = .returned (.agg #[.int .i64 (k:Int),.string ⟨s.toArray⟩,.int .u32 0,.int .i64 (a:Int),.slice A la cA,.slice none 0 0])/\Below w.heap.size w w':=by
 go_enter Tryz.func24,Tryz.ntmps24;go_wp2_with fail
 refine bodyPost_ret (aH rfl rfl (Aa.new _ _ _) rfl) rfl ⟨rfl,?_⟩;exact (Below.refl _ _).alloc (Nat.le_refl _) _
theorem q3d(w:World)(bp ba wy d:Nat)(t:Tk)(r:List Tk)(hp:QS w bp (t :: r) ba wy)(hw:wy≠0) :
  Calls Tryz.prog 88 #[.pointer (some ⟨bp,0,none⟩),.int .i64 0,.int .i64 (d:Int)] w fun e w'=>e = .returned (.agg zNd)/\Below w.heap.size w w':=by
 obtain ⟨b',o,c,n,hn,hl,hc,hm,⟨c0,c1,c2,c3⟩,⟨z0,z1,z2,z3⟩,f4,f5,f6⟩:=hp.head;have hlt:=hp.lt;have hz:((wy:Int) != 0)=true:=V4;have hz2:((wy:Int)==0)=false:=V4;clear hn hp hw;go_enter Tryz.func88,Tryz.ntmps88;go_wp2_with fail
 first
  | refine bodyPost_ret (aH rfl rfl (Aa.new _ _ _) rfl) rfl ⟨rfl,(Below.refl _ _).alloc (Nat.le_refl _) _⟩
  | refine bodyPost_ret (aH rfl rfl (Aa.az (Aa.new _ _ _) _ _ _ _ _ _) rfl) rfl ⟨rfl,?_⟩
end
section
attribute [local go_sem] bH bI bJ
theorem q04(w:World):∃ w0,w.alloc (.cells zNd 26)=w0/\Below w.heap.size w w0/\Aa w0 w.heap.size 26 zNd:=
 ⟨_,rfl,(Below.refl _ _).alloc (Nat.le_refl _) _,Aa.new _ _ _⟩
theorem ex_dead(w:World)(bp ba wy d:Nat)(t:Tk)(r:List Tk)(hp:QS w bp (t :: r) ba wy)(hw:wy≠0) :
  Calls Tryz.prog 46 #[.pointer (some ⟨bp,0,none⟩),.int .i64 (d:Int)] w fun e w'=>e = .returned (.agg zNd)/\Below w.heap.size w w':=by
 obtain ⟨w0,hw0,hb0,hB⟩:=q04 w;have hlt:=hp.lt;have Az:=Hi fun b:Bool=>q0n w0 bp ba wy 150 b t r (hp.below hb0) (.inr hw)
 have HL:=Hi (q3d w0 bp ba wy d t r (hp.below hb0) hw);have HB0:=Hi hb0;have HB:=Hi hB;have HW:=Hi hw0;clear hb0 hB hp hw0 hw;go_enter Tryz.func46,Tryz.ntmps46;go_wp2_with fail
 rw [HW.out];refine (Az.out _).mono ?_;rintro e w' ⟨rfl,rfl⟩;go_wp2_with fail
 refine HL.out.mono ?_;rintro e w1 ⟨rfl,hb1⟩;have h1:=HB.out.below hb1 HB.out.lt;obtain ⟨⟨e0,e1,e2,e3,e4,e5⟩,z0,z1,z2,z3,z4,z5⟩:=Aa.c6 h1;have H1:=Hi h1;have HB1:=Hi (HB0.out.trans (hb1.mono HB0.out.size));clear h1 hb1;go_wp2_with fail
 refine bodyPost_ret (aH rfl rfl (Aa.az H1.out _ _ _ _ _ _) rfl) rfl ⟨rfl,?_⟩;exact (((((HB1.out.setCell (Nat.le_refl _) _).setCell (Nat.le_refl _) _).setCell (Nat.le_refl _) _).setCell (Nat.le_refl _) _).setCell (Nat.le_refl _) _).setCell (Nat.le_refl _) _
theorem ex_deep(w:World)(bp d:Nat)(t:Tk)(r:List Tk)(hp:QS w bp (t :: r) 0 0)(hd:60 < d) :
  Calls Tryz.prog 46 #[.pointer (some ⟨bp,0,none⟩),.int .i64 (d:Int)] w (AU w bp (t :: r) (Rd ag (.aI 0) d (t :: r))):=by
 obtain ⟨w0,hw0,hb0,hB⟩:=q04 w;have hlt:=hp.lt;have hR:Rd ag (.aI 0) d (t :: r) (.bad t.at_ 150):=q6d hd;have Az:=Hi (q1A w0 bp 150 t r (hp.below hb0));have HB0:=Hi hb0;have HB:=Hi hB;have HW:=Hi hw0;have HR:=Hi hR;have hdi:(60:Int) < (d:Int):=V0;have hbl:=hB.lt;clear hb0 hB hp hw0 hR;go_enter Tryz.func46,Tryz.ntmps46;go_wp2_with fail
 rw [HW.out];refine Az.out.mono ?_;rintro e w1 ⟨rfl,hp1,hu1⟩;have HL:=Hi (q3d w1 bp t.at_ 150 d t r hp1 V2);have AP:=Hi (HB.out.upd hu1 V0);have Aj:=Hi ((q01 HB0.out).trans hu1);have Be:=Hi hp1;clear hp1 hu1;go_wp2_with fail
 refine HL.out.mono ?_;rintro e w2 ⟨rfl,hb2⟩;have h1:=AP.out.below hb2 AP.out.lt;obtain ⟨⟨e0,e1,e2,e3,e4,e5⟩,z0,z1,z2,z3,z4,z5⟩:=Aa.c6 h1;have H1:=Hi h1;have Ai:=Hi (Aj.out.trans (q01 hb2));have Ar:=Hi (Be.out.below hb2);clear h1 hb2;go_wp2_with fail
 refine bodyPost_ret (aH rfl rfl (Aa.az H1.out _ _ _ _ _ _) rfl) rfl ?_;exact q1e 0 0 0 0 0 0 0 [] none none hlt V2 HR.out Ar.out Ai.out
theorem q76{w w0 w1:World}{bp:Nat}{l:List Tk}{R:Out->Prop}{k a n la cA lb cB:Nat}{s:Bs}{A B:Option Addr}(hlt:bp < w.heap.size)(hg:w.heap.size < w0.heap.size)(hU:UB bp w w1)
  (h:(∃ x r,Ak (fun b=>w0.heap.size<=b) w1 x (bG k a s n A la cA B lb cB)/\R (.ok [x] r)/\QS w1 bp r 0 0/\Gt r/\r.length < l.length)\/(∃ ba er t r,er≠0/\R (.bad ba er)/\QS w1 bp (t :: r) ba er)) :
  AU w bp l R (.returned (.agg #[.int .i64 (k:Int),.string ⟨s.toArray⟩,.int .u32 (n:Int),.int .i64 (a:Int),.slice A la cA,.slice B lb cB])) (az w1 w.heap.size (.int .i64 (k:Int)) (.string ⟨s.toArray⟩) (.int .u32 (n:Int)) (.int .i64 (a:Int)) (.slice A la cA) (.slice B lb cB)):=by
 rcases h with ⟨x,r,hT,hR,hP,hG,hr⟩ | ⟨ba,er,t,r,he,hR,hP⟩
 ·exact q5E hlt hg hT hR hP hG hr hU
 ·exact q1e _ _ _ _ _ _ _ _ _ _ hlt he hR hP hU
theorem ex_at(w:World)(bp d:Nat)(t:Tk)(r:List Tk)(hp:QS w bp (t :: r) 0 0)(hd:d<=60)
  (HL:∀ w0,QS w0 bp (t :: r) 0 0->Calls Tryz.prog 88 #[.pointer (some ⟨bp,0,none⟩),.int .i64 0,.int .i64 (d:Int)] w0 (AU w0 bp (t :: r) (Rd ag (.aI 0) d (t :: r)))) :
  Calls Tryz.prog 46 #[.pointer (some ⟨bp,0,none⟩),.int .i64 (d:Int)] w (AU w bp (t :: r) (Rd ag (.aI 0) d (t :: r))):=by
 obtain ⟨w0,hw0,hb0,hB⟩:=q04 w;have hlt:=hp.lt;have Az:=Hi (q0n w0 bp 0 0 150 false t r (hp.below hb0) (.inl rfl));have HLL:=Hi (HL w0 (hp.below hb0));have HB0:=Hi hb0;have HB:=Hi hB;have HW:=Hi hw0;have hdi:¬ (60:Int) < (d:Int):=V0;have hbl:=hB.lt;clear hb0 hB hp hw0 HL;go_enter Tryz.func46,Tryz.ntmps46;go_wp2_with fail
 rw [HW.out];refine Az.out.mono ?_;rintro e w' ⟨rfl,rfl⟩;go_wp2_with fail
 refine HLL.out.mono ?_;rintro e w1 ⟨k,a,s,n,A,la,cA,B,lb,cB,rfl,hU,hO⟩;have h1:=HB.out.upd hU V0;obtain ⟨⟨e0,e1,e2,e3,e4,e5⟩,z0,z1,z2,z3,z4,z5⟩:=Aa.c6 h1;have H1:=Hi h1;have Aj:=Hi ((q01 HB0.out).trans hU);have HO:=Hi hO;clear h1 hU hO;go_wp2_with fail
 refine bodyPost_ret (aH rfl rfl (Aa.az H1.out _ _ _ _ _ _) rfl) rfl ?_;exact q76 hlt HB.out.lt Aj.out HO.out
def UnC(n:Nat):Prop:=∀ (w:World) (bp d:Nat) (l:List Tk),l.length<=n->QS w bp l 0 0->Gt l ->
 Calls Tryz.prog 118 #[.pointer (some ⟨bp,0,none⟩),.int .i64 (d:Int)] w (AU w bp l (Rd ag (.aI 5) d l))
def ExQ(n:Nat):Prop:=∀ (w:World) (bp d:Nat) (l:List Tk),l.length<=n->QS w bp l 0 0->Gt l ->
 Calls Tryz.prog 46 #[.pointer (some ⟨bp,0,none⟩),.int .i64 (d:Int)] w (AU w bp l (Rd ag (.aI 0) d l))
end
section
attribute [local go_sem] bH bI bJ
theorem un_not{n:Nat}(H:UnC n)(w:World)(bp d:Nat)(t:Tk)(r:List Tk)(hn:r.length<=n)(hd:d<=60)(hp:QS w bp (t :: r) 0 0)(hg:Gt (t :: r))(hs:ak [126] t=true) :
  Calls Tryz.prog 118 #[.pointer (some ⟨bp,0,none⟩),.int .i64 (d:Int)] w (AU w bp (t :: r) (Rd ag (.aI 5) d (t :: r))):=by
 have hgr:=hg.tail (q1o hs);obtain ⟨t2,r2,hr2⟩:=hgr.cons;have hne:r≠[]:=Vf;have hon:(ak [126] t || ak [45] t)=true:=by simp [hs]
 have HGR:=Hi hgr;have HNE:=Hi hne;have HON:=Hi hon;have HS:=Hi hs;obtain ⟨w0,hw0,hb0,hB⟩:=q04 w;have hlt:=hp.lt;have Bb:=Hi (hp.below hb0);have Az:=Hi (q0n w0 bp 0 0 150 false t r (hp.below hb0) (.inl rfl));have HT:=Hi (tok w0 bp 0 0 t r (hp.below hb0));have hdi:¬ (60:Int) < (d:Int):=V0;have HB0:=Hi hb0;have HB:=Hi hB;have HW:=Hi hw0;have hbl:=hB.lt;clear hb0 hB hp hw0 hg hgr hne hon hs hr2;go_enter Tryz.func118,Tryz.ntmps118;go_wp2_with fail
 rw [HW.out];refine Az.out.mono ?_;rintro e w' ⟨rfl,rfl⟩;go_wp2_with fail
 refine HT.out.mono ?_;rintro e w1 ⟨rfl,hb1⟩;obtain ⟨w2,hw2,-,hbt⟩:=aS w1 #[.int .i64 (t.k:Int),.string ⟨t.s.toArray⟩,.int .i64 (t.at_:Int)] 63;have hb2:Below w0.heap.size w0 w2:=Vg;have h01:=hb1.size;have h12:=hbt.lt;have Ar:=Hi (Bb.out.below hb2);have HW2:=Hi hw2;have Ai:=Hi ((q01 (bp:=bp) HB0.out).trans (q01 hb2));have HBT:=Hi hbt;have Ah:=Hi (HB.out.below hb2 HB.out.lt);clear hb1 hb2 hw2 hbt HT Az Bb;have HG:=Hi (q0p w2 bp t r [126] Ar.out HS.out HNE.out);have HU2':=Ai;have HBT':=HBT;have HX2':=Ah;go_wp2_with fail
 rw [HW2.out];refine HG.out.mono ?_;rintro e w3 ⟨rfl,hp3,hu3⟩;have HE:=Hi (H w3 bp (d+1) r hn hp3 HGR.out);have Aw:=Hi (HU2'.out.trans hu3);have AV:=Hi (HBT'.out.upd hu3 V0);have Aq:=Hi (HX2'.out.upd hu3 V0);have h23:=hu3.size;clear hp3 hu3;go_wp2_with fail
 refine HE.out.mono ?_;rintro e w4 ⟨k,a,s,m,A,la,cA,B,lb,cB,rfl,hU,hO⟩;have hbt4:=AV.out.upd hU (show ¬ w1.heap.size=bp from V0);obtain ⟨f0,f1,f2,y0,y1,y2⟩:=Aa.c3 hbt4;have h14:=hbt4.lt;have h34:=hU.size;obtain ⟨w5,hw5,hb5,-⟩:=aS w4 #[.int .i64 (k:Int),.string ⟨s.toArray⟩,.int .u32 (m:Int),.int .i64 (a:Int),.slice A la cA,.slice B lb cB] 26;have h45:=hb5.size;have hs5:w5.heap.size=w4.heap.size+1:=V18;have AX:=Hi ((Aq.out.upd hU (show ¬ w.heap.size=bp from V0)).below hb5 V0);have AR:=Hi ((Aw.out.trans hU).trans (q01 hb5));have HB5:=Hi hb5;have HW5:=Hi hw5;have HO:=Hi hO;clear hbt4 hU hO hb5 hw5 HE Aw AV Aq Ai HBT Ah Ar HW2 HG;go_wp2_with fail
 rw [HW5.out];obtain ⟨w6,hw6,hb6,-⟩:=aS w5 #[.int .i64 (k:Int),.string ⟨s.toArray⟩,.int .u32 (m:Int),.int .i64 (a:Int),.slice A la cA,.slice B lb cB] 26;rw [hw6];refine (node w6 2 t.at_ t.s _ 1 1).mono ?_;rintro e w7 ⟨rfl,bO⟩;have hb57:Below w5.heap.size w5 w7:=hb6.trans (bO.mono hb6.size);have h1:=AX.out.below hb57 AX.out.lt;obtain ⟨⟨e0,e1,e2,e3,e4,e5⟩,z0,z1,z2,z3,z4,z5⟩:=Aa.c6 h1;have H1:=Hi h1;have HB57:=Hi hb57;have HB67:=Hi bO;have HW6:=Hi hw6;clear h1 hb57 hb6 bO hw6;go_wp2_with fail
 refine bodyPost_ret (aH rfl rfl (Aa.az H1.out _ _ _ _ _ _) rfl) rfl ?_;have hU7:UB bp w w7:=AR.out.trans (q01 HB57.out);rcases HO.out with ⟨x,r',hT,hR,hP,hG,hr⟩ | ⟨ba,er,t',r',he,hR,hP⟩
 ·exact V2i
 ·exact V3p
theorem un_neg{n:Nat}(H:UnC n)(w:World)(bp d:Nat)(t:Tk)(r:List Tk)(hn:r.length<=n)(hd:d<=60)(hp:QS w bp (t :: r) 0 0)(hg:Gt (t :: r))(h1:ak [126] t=false)(hs:ak [45] t=true) :
  Calls Tryz.prog 118 #[.pointer (some ⟨bp,0,none⟩),.int .i64 (d:Int)] w (AU w bp (t :: r) (Rd ag (.aI 5) d (t :: r))):=by
 have hgr:=hg.tail (q1o hs);obtain ⟨t2,r2,hr2⟩:=hgr.cons;have hne:r≠[]:=Vf;have hon:(ak [126] t || ak [45] t)=true:=by simp [hs]
 have HGR:=Hi hgr;have HNE:=Hi hne;have HON:=Hi hon;have HS:=Hi hs;have HS1:=Hi h1;obtain ⟨w0,hw0,hb0,hB⟩:=q04 w;have hlt:=hp.lt;have Bb:=Hi (hp.below hb0);have Az:=Hi (q0n w0 bp 0 0 150 false t r (hp.below hb0) (.inl rfl));have HT:=Hi (tok w0 bp 0 0 t r (hp.below hb0));have hdi:¬ (60:Int) < (d:Int):=V0;have HB0:=Hi hb0;have HB:=Hi hB;have HW:=Hi hw0;have hbl:=hB.lt;clear hb0 hB hp hw0 hg hgr hne hon hs hr2 h1;go_enter Tryz.func118,Tryz.ntmps118;go_wp2_with fail
 rw [HW.out];refine Az.out.mono ?_;rintro e w' ⟨rfl,rfl⟩;go_wp2_with fail
 refine HT.out.mono ?_;rintro e w1 ⟨rfl,hb1⟩;obtain ⟨w2,hw2,-,hbt⟩:=aS w1 #[.int .i64 (t.k:Int),.string ⟨t.s.toArray⟩,.int .i64 (t.at_:Int)] 63;have hb2:Below w0.heap.size w0 w2:=Vg;have h01:=hb1.size;have h12:=hbt.lt;have Ar:=Hi (Bb.out.below hb2);have HW2:=Hi hw2;have Ai:=Hi ((q01 (bp:=bp) HB0.out).trans (q01 hb2));have HBT:=Hi hbt;have Ah:=Hi (HB.out.below hb2 HB.out.lt);clear hb1 hb2 hw2 hbt HT Az Bb;have HG0:=Hi (q03 w2 bp 0 0 t r [126] Ar.out (.inr HS1.out));go_wp2_with fail
 rw [HW2.out];refine HG0.out.mono ?_;rintro e wg ⟨rfl,hbg⟩;have HG:=Hi (q0p wg bp t r [45] (Ar.out.below hbg) HS.out HNE.out);have HU2':=Hi (Ai.out.trans (q01 hbg));have HBT':=Hi (HBT.out.below hbg h12);have HX2':=Hi (Ah.out.below hbg Ah.out.lt);have h2g:=hbg.size;clear hbg;go_wp2_with fail
 refine HG.out.mono ?_;rintro e w3 ⟨rfl,hp3,hu3⟩;have HE:=Hi (H w3 bp (d+1) r hn hp3 HGR.out);have Aw:=Hi (HU2'.out.trans hu3);have AV:=Hi (HBT'.out.upd hu3 V0);have Aq:=Hi (HX2'.out.upd hu3 V0);have h23:=hu3.size;clear hp3 hu3;go_wp2_with fail
 refine HE.out.mono ?_;rintro e w4 ⟨k,a,s,m,A,la,cA,B,lb,cB,rfl,hU,hO⟩;have hbt4:=AV.out.upd hU (show ¬ w1.heap.size=bp from V0);obtain ⟨f0,f1,f2,y0,y1,y2⟩:=Aa.c3 hbt4;have h14:=hbt4.lt;have h34:=hU.size;obtain ⟨w5,hw5,hb5,-⟩:=aS w4 #[.int .i64 (k:Int),.string ⟨s.toArray⟩,.int .u32 (m:Int),.int .i64 (a:Int),.slice A la cA,.slice B lb cB] 26;have h45:=hb5.size;have hs5:w5.heap.size=w4.heap.size+1:=V18;have AX:=Hi ((Aq.out.upd hU (show ¬ w.heap.size=bp from V0)).below hb5 V0);have AR:=Hi ((Aw.out.trans hU).trans (q01 hb5));have HB5:=Hi hb5;have HW5:=Hi hw5;have HO:=Hi hO;clear hbt4 hU hO hb5 hw5 HE Aw AV Aq Ai HBT Ah Ar HW2 HG;go_wp2_with fail
 rw [HW5.out];obtain ⟨w6,hw6,hb6,-⟩:=aS w5 #[.int .i64 (k:Int),.string ⟨s.toArray⟩,.int .u32 (m:Int),.int .i64 (a:Int),.slice A la cA,.slice B lb cB] 26;rw [hw6];refine (node w6 2 t.at_ t.s _ 1 1).mono ?_;rintro e w7 ⟨rfl,bO⟩;have hb57:Below w5.heap.size w5 w7:=hb6.trans (bO.mono hb6.size);have h1:=AX.out.below hb57 AX.out.lt;obtain ⟨⟨e0,e1,e2,e3,e4,e5⟩,z0,z1,z2,z3,z4,z5⟩:=Aa.c6 h1;have H1:=Hi h1;have HB57:=Hi hb57;have HB67:=Hi bO;have HW6:=Hi hw6;clear h1 hb57 hb6 bO hw6;go_wp2_with fail
 refine bodyPost_ret (aH rfl rfl (Aa.az H1.out _ _ _ _ _ _) rfl) rfl ?_;have hU7:UB bp w w7:=AR.out.trans (q01 HB57.out);rcases HO.out with ⟨x,r',hT,hR,hP,hG,hr⟩ | ⟨ba,er,t',r',he,hR,hP⟩
 ·exact V2i
 ·exact V3p
end
section
attribute [local go_sem] bH bI bJ
theorem rnum(s:Bs)(hs:s.length<=20000)(w:World):Calls Tryz.prog 141 #[.string ⟨s.toArray⟩] w fun e w'=>e = .returned (.tuple #[.int .u32 ((ag s).1:Int),.int .i64 ((ag s).2:Int)])/\Below w.heap.size w w':=by
 have h:=Num.rnumC (Lib.hasPrefix s [48,120]) ⟨s.toArray⟩ w (Num.pre_eq _).symm (by rw [show (ByteArray.mk s.toArray).size=s.length from by simp [ByteArray.size]];unfold maxLen;omega);refine h.mono fun e w' h=>?_
 obtain ⟨rfl,m,rfl⟩:=h;refine ⟨?_,q0l (Below.refl _ _) m⟩;unfold ag Lib.trimPrefix;cases hp:Lib.hasPrefix s [48,120]
 ·rfl
 ·rfl
theorem un_num0(w:World)(bp d:Nat)(t:Tk)(r:List Tk)(hd:d<=60)(hp:QS w bp (t :: r) 0 0)(hg:Gt (t :: r))(hk:t.k = 2)(he:(ag t.s).2 = 0) :
  Calls Tryz.prog 118 #[.pointer (some ⟨bp,0,none⟩),.int .i64 (d:Int)] w (AU w bp (t :: r) (Rd ag (.aI 5) d (t :: r))):=by
 have hgr:=hg.tail V0;obtain ⟨t2,r2,hr2⟩:=hgr.cons;have hne:r≠[]:=Vf;have hC:=rnum t.s (hg.ok t (List.mem_cons_self ..)).2;have h126:ak [126] t=false:=q0s V0 _;have h45:ak [45] t=false:=q0s V0 _;have hR:=r_num (num:=ag) (r:=r) hd hk he;rw [he] at hC;generalize (ag t.s).1=nv at hC hR;have HC:=Hi hC;have HR:=Hi hR;have HGR:=Hi hgr;have HNE:=Hi hne;have H126:=Hi h126;have H45:=Hi h45;have hki:((t.k:Int)==2)=true:=by simp [hk]
 obtain ⟨w0,hw0,hb0,hB⟩:=q04 w;have hlt:=hp.lt;have Bb:=Hi (hp.below hb0);have Az:=Hi (q0n w0 bp 0 0 150 false t r (hp.below hb0) (.inl rfl));have HT:=Hi (tok w0 bp 0 0 t r (hp.below hb0));have hdi:¬ (60:Int) < (d:Int):=V0;have HB0:=Hi hb0;have HB:=Hi hB;have HW:=Hi hw0;have hbl:=hB.lt;clear hb0 hB hp hw0 hg hgr hne hr2 hC hR h126 h45 hk he;go_enter Tryz.func118,Tryz.ntmps118;go_wp2_with fail
 rw [HW.out];refine Az.out.mono ?_;rintro e w' ⟨rfl,rfl⟩;go_wp2_with fail
 refine HT.out.mono ?_;rintro e w1 ⟨rfl,hb1⟩;obtain ⟨w2,hw2,-,hbt⟩:=aS w1 #[.int .i64 (t.k:Int),.string ⟨t.s.toArray⟩,.int .i64 (t.at_:Int)] 63;have hb2:Below w0.heap.size w0 w2:=Vg;have h01:=hb1.size;have h12:=hbt.lt;have Ar:=Hi (Bb.out.below hb2);have HW2:=Hi hw2;have Ai:=Hi ((q01 (bp:=bp) HB0.out).trans (q01 hb2));have HBT:=Hi hbt;have Ah:=Hi (HB.out.below hb2 HB.out.lt);clear hb1 hb2 hw2 hbt HT Az Bb;have HG1:=Hi (q03 w2 bp 0 0 t r [126] Ar.out (.inr H126.out));go_wp2_with fail
 rw [HW2.out];refine HG1.out.mono ?_;rintro e wa ⟨rfl,aL⟩;have HG2:=Hi (q03 wa bp 0 0 t r [45] (Ar.out.below aL) (.inr H45.out));have AA:=Hi aL;clear aL;go_wp2_with fail
 refine HG2.out.mono ?_;rintro e w3 ⟨rfl,hb3⟩;have aG:=AA.out.trans (hb3.mono AA.out.size);have h23:=aG.size;have bF:=HBT.out.below aG h12;obtain ⟨f0,f1,f2,y0,y1,y2⟩:=Aa.c3 bF;have h13:=bF.lt;have HP3:=Hi (Ar.out.below aG);have Aw:=Hi (Ai.out.trans (q01 aG));have AV:=Hi bF;have Aq:=Hi (Ah.out.below aG Ah.out.lt);clear hb3 aG bF HG1 HG2 AA Ar Ai HBT Ah HW2;go_wp2_with fail
 refine (HC.out _).mono ?_;rintro e w4 ⟨rfl,hb4⟩;have h34:=hb4.size;have HP4:=Hi (HP3.out.below hb4);have AO:=Hi (Aw.out.trans (q01 hb4));have Bd:=Hi (AV.out.below hb4 h13);have Ba:=Hi (Aq.out.below hb4 Aq.out.lt);clear hb4 HP3 Aw AV Aq f0 f1 f2 y0 y1 y2;go_wp2_with fail
 refine (q0n w4 bp 0 0 100 false t r HP4.out (.inl rfl)).mono ?_;rintro e w' ⟨rfl,rfl⟩;go_wp2_with fail
 refine (q0n w4 bp 0 0 150 false t r HP4.out (.inl rfl)).mono ?_;rintro e w' ⟨rfl,rfl⟩;go_wp2_with fail
 refine (q2o w4 bp t r HP4.out HNE.out).mono ?_;rintro e w6 ⟨rfl,hp6,bX⟩;have hbt:=Bd.out.upd bX V0;have hx:=Ba.out.upd bX V0;have HP6:=Hi hp6;have HU6:=Hi (AO.out.trans bX);have h46:=bX.size;clear hp6 bX;obtain ⟨f0,f1,f2,y0,y1,y2⟩:=Aa.c3 hbt;obtain ⟨⟨e0,e1,e2,e3,e4,e5⟩,z0,z1,z2,z3,z4,z5⟩:=Aa.c6 hx;have H1:=Hi hx;clear hbt hx;go_wp2_with fail
 refine bodyPost_ret (aH rfl rfl (Aa.az H1.out _ _ _ _ _ _) rfl) rfl ?_;exact q5E (lo:=w.heap.size+1) hlt (Nat.lt_succ_self _) (q1S _ 0 t.at_ nv []) HR.out HP6.out HGR.out V3 HU6.out
theorem un_num2(w:World)(bp d:Nat)(t:Tk)(r:List Tk)(hd:d<=60)(hp:QS w bp (t :: r) 0 0)(hg:Gt (t :: r))(hk:t.k = 2)(he:(ag t.s).2 = 2) :
  Calls Tryz.prog 118 #[.pointer (some ⟨bp,0,none⟩),.int .i64 (d:Int)] w (AU w bp (t :: r) (Rd ag (.aI 5) d (t :: r))):=by
 have hgr:=hg.tail V0;obtain ⟨t2,r2,hr2⟩:=hgr.cons;have hne:r≠[]:=Vf;have hC:=rnum t.s (hg.ok t (List.mem_cons_self ..)).2;have h126:ak [126] t=false:=q0s V0 _;have h45:ak [45] t=false:=q0s V0 _;have hR:=q2P (num:=ag) (r:=r) hd hk (by rw [he];decide);rw [he] at hR;rw [he] at hC;generalize (ag t.s).1=nv at hC;have HC:=Hi hC;have HR:=Hi hR;have HGR:=Hi hgr;have HNE:=Hi hne;have H126:=Hi h126;have H45:=Hi h45;have hki:((t.k:Int)==2)=true:=by simp [hk]
 obtain ⟨w0,hw0,hb0,hB⟩:=q04 w;have hlt:=hp.lt;have Bb:=Hi (hp.below hb0);have Az:=Hi (q0n w0 bp 0 0 150 false t r (hp.below hb0) (.inl rfl));have HT:=Hi (tok w0 bp 0 0 t r (hp.below hb0));have hdi:¬ (60:Int) < (d:Int):=V0;have HB0:=Hi hb0;have HB:=Hi hB;have HW:=Hi hw0;have hbl:=hB.lt;clear hb0 hB hp hw0 hg hgr hne hr2 hC hR h126 h45 hk he;go_enter Tryz.func118,Tryz.ntmps118;go_wp2_with fail
 rw [HW.out];refine Az.out.mono ?_;rintro e w' ⟨rfl,rfl⟩;go_wp2_with fail
 refine HT.out.mono ?_;rintro e w1 ⟨rfl,hb1⟩;obtain ⟨w2,hw2,-,hbt⟩:=aS w1 #[.int .i64 (t.k:Int),.string ⟨t.s.toArray⟩,.int .i64 (t.at_:Int)] 63;have hb2:Below w0.heap.size w0 w2:=Vg;have h01:=hb1.size;have h12:=hbt.lt;have Ar:=Hi (Bb.out.below hb2);have HW2:=Hi hw2;have Ai:=Hi ((q01 (bp:=bp) HB0.out).trans (q01 hb2));have HBT:=Hi hbt;have Ah:=Hi (HB.out.below hb2 HB.out.lt);clear hb1 hb2 hw2 hbt HT Az Bb;have HG1:=Hi (q03 w2 bp 0 0 t r [126] Ar.out (.inr H126.out));go_wp2_with fail
 rw [HW2.out];refine HG1.out.mono ?_;rintro e wa ⟨rfl,aL⟩;have HG2:=Hi (q03 wa bp 0 0 t r [45] (Ar.out.below aL) (.inr H45.out));have AA:=Hi aL;clear aL;go_wp2_with fail
 refine HG2.out.mono ?_;rintro e w3 ⟨rfl,hb3⟩;have aG:=AA.out.trans (hb3.mono AA.out.size);have h23:=aG.size;have bF:=HBT.out.below aG h12;obtain ⟨f0,f1,f2,y0,y1,y2⟩:=Aa.c3 bF;have h13:=bF.lt;have HP3:=Hi (Ar.out.below aG);have Aw:=Hi (Ai.out.trans (q01 aG));have AV:=Hi bF;have Aq:=Hi (Ah.out.below aG Ah.out.lt);clear hb3 aG bF HG1 HG2 AA Ar Ai HBT Ah HW2;go_wp2_with fail
 refine (HC.out _).mono ?_;rintro e w4 ⟨rfl,hb4⟩;have h34:=hb4.size;have HP4:=Hi (HP3.out.below hb4);have AO:=Hi (Aw.out.trans (q01 hb4));have Bd:=Hi (AV.out.below hb4 h13);have Ba:=Hi (Aq.out.below hb4 Aq.out.lt);clear hb4 HP3 Aw AV Aq f0 f1 f2 y0 y1 y2;go_wp2_with fail
 refine (q0n w4 bp 0 0 100 false t r HP4.out (.inl rfl)).mono ?_;rintro e w' ⟨rfl,rfl⟩;go_wp2_with fail
 refine (q1A w4 bp 150 t r HP4.out).mono ?_;rintro e w5 ⟨rfl,hp5,bn⟩;have h45':=bn.size;have HP5:=Hi hp5;have AR:=Hi (AO.out.trans bn);have HBT5:=Hi (Bd.out.upd bn V0);have AX:=Hi (Ba.out.upd bn V0);clear hp5 bn;go_wp2_with fail
 refine (q74 w5 bp t.at_ 150 t r HP5.out V2).mono ?_;rintro e w6 ⟨rfl,hb6⟩;have hbt:=HBT5.out.below hb6 V0;have hx:=AX.out.below hb6 AX.out.lt;have HP6:=Hi (HP5.out.below hb6);have HU6:=Hi (AR.out.trans (q01 hb6));have h56:=hb6.size;clear hb6;obtain ⟨f0,f1,f2,y0,y1,y2⟩:=Aa.c3 hbt;obtain ⟨⟨e0,e1,e2,e3,e4,e5⟩,z0,z1,z2,z3,z4,z5⟩:=Aa.c6 hx;have H1:=Hi hx;clear hbt hx;go_wp2_with fail
 refine bodyPost_ret (aH rfl rfl (Aa.az H1.out _ _ _ _ _ _) rfl) rfl ?_;exact q1e 0 t.at_ nv 0 0 0 0 [] none none hlt V2 HR.out HP6.out HU6.out
theorem un_num4(w:World)(bp d:Nat)(t:Tk)(r:List Tk)(hd:d<=60)(hp:QS w bp (t :: r) 0 0)(hg:Gt (t :: r))(hk:t.k = 2)(he:(ag t.s).2 = 4) :
  Calls Tryz.prog 118 #[.pointer (some ⟨bp,0,none⟩),.int .i64 (d:Int)] w (AU w bp (t :: r) (Rd ag (.aI 5) d (t :: r))):=by
 have hgr:=hg.tail V0;obtain ⟨t2,r2,hr2⟩:=hgr.cons;have hne:r≠[]:=Vf;have hC:=rnum t.s (hg.ok t (List.mem_cons_self ..)).2;have h126:ak [126] t=false:=q0s V0 _;have h45:ak [45] t=false:=q0s V0 _;have hR:=q2P (num:=ag) (r:=r) hd hk (by rw [he];decide);rw [he] at hR;rw [he] at hC;generalize (ag t.s).1=nv at hC;have HC:=Hi hC;have HR:=Hi hR;have HGR:=Hi hgr;have HNE:=Hi hne;have H126:=Hi h126;have H45:=Hi h45;have hki:((t.k:Int)==2)=true:=by simp [hk]
 obtain ⟨w0,hw0,hb0,hB⟩:=q04 w;have hlt:=hp.lt;have Bb:=Hi (hp.below hb0);have Az:=Hi (q0n w0 bp 0 0 150 false t r (hp.below hb0) (.inl rfl));have HT:=Hi (tok w0 bp 0 0 t r (hp.below hb0));have hdi:¬ (60:Int) < (d:Int):=V0;have HB0:=Hi hb0;have HB:=Hi hB;have HW:=Hi hw0;have hbl:=hB.lt;clear hb0 hB hp hw0 hg hgr hne hr2 hC hR h126 h45 hk he;go_enter Tryz.func118,Tryz.ntmps118;go_wp2_with fail
 rw [HW.out];refine Az.out.mono ?_;rintro e w' ⟨rfl,rfl⟩;go_wp2_with fail
 refine HT.out.mono ?_;rintro e w1 ⟨rfl,hb1⟩;obtain ⟨w2,hw2,-,hbt⟩:=aS w1 #[.int .i64 (t.k:Int),.string ⟨t.s.toArray⟩,.int .i64 (t.at_:Int)] 63;have hb2:Below w0.heap.size w0 w2:=Vg;have h01:=hb1.size;have h12:=hbt.lt;have Ar:=Hi (Bb.out.below hb2);have HW2:=Hi hw2;have Ai:=Hi ((q01 (bp:=bp) HB0.out).trans (q01 hb2));have HBT:=Hi hbt;have Ah:=Hi (HB.out.below hb2 HB.out.lt);clear hb1 hb2 hw2 hbt HT Az Bb;have HG1:=Hi (q03 w2 bp 0 0 t r [126] Ar.out (.inr H126.out));go_wp2_with fail
 rw [HW2.out];refine HG1.out.mono ?_;rintro e wa ⟨rfl,aL⟩;have HG2:=Hi (q03 wa bp 0 0 t r [45] (Ar.out.below aL) (.inr H45.out));have AA:=Hi aL;clear aL;go_wp2_with fail
 refine HG2.out.mono ?_;rintro e w3 ⟨rfl,hb3⟩;have aG:=AA.out.trans (hb3.mono AA.out.size);have h23:=aG.size;have bF:=HBT.out.below aG h12;obtain ⟨f0,f1,f2,y0,y1,y2⟩:=Aa.c3 bF;have h13:=bF.lt;have HP3:=Hi (Ar.out.below aG);have Aw:=Hi (Ai.out.trans (q01 aG));have AV:=Hi bF;have Aq:=Hi (Ah.out.below aG Ah.out.lt);clear hb3 aG bF HG1 HG2 AA Ar Ai HBT Ah HW2;go_wp2_with fail
 refine (HC.out _).mono ?_;rintro e w4 ⟨rfl,hb4⟩;have h34:=hb4.size;have HP4:=Hi (HP3.out.below hb4);have AO:=Hi (Aw.out.trans (q01 hb4));have Bd:=Hi (AV.out.below hb4 h13);have Ba:=Hi (Aq.out.below hb4 Aq.out.lt);clear hb4 HP3 Aw AV Aq f0 f1 f2 y0 y1 y2;go_wp2_with fail
 refine (q1A w4 bp 100 t r HP4.out).mono ?_;rintro e w5 ⟨rfl,hp5,bn⟩;have h45':=bn.size;have HP5:=Hi hp5;have AR:=Hi (AO.out.trans bn);have HBT5:=Hi (Bd.out.upd bn V0);have AX:=Hi (Ba.out.upd bn V0);clear hp5 bn;go_wp2_with fail
 refine (q0n w5 bp t.at_ 100 150 true t r HP5.out (.inr V2)).mono ?_;rintro e w' ⟨rfl,rfl⟩;go_wp2_with fail
 refine (q74 w5 bp t.at_ 100 t r HP5.out V2).mono ?_;rintro e w6 ⟨rfl,hb6⟩;have hbt:=HBT5.out.below hb6 V0;have hx:=AX.out.below hb6 AX.out.lt;have HP6:=Hi (HP5.out.below hb6);have HU6:=Hi (AR.out.trans (q01 hb6));have h56:=hb6.size;clear hb6;obtain ⟨f0,f1,f2,y0,y1,y2⟩:=Aa.c3 hbt;obtain ⟨⟨e0,e1,e2,e3,e4,e5⟩,z0,z1,z2,z3,z4,z5⟩:=Aa.c6 hx;have H1:=Hi hx;clear hbt hx;go_wp2_with fail
 refine bodyPost_ret (aH rfl rfl (Aa.az H1.out _ _ _ _ _ _) rfl) rfl ?_;exact q1e 0 t.at_ nv 0 0 0 0 [] none none hlt V2 HR.out HP6.out HU6.out
end
end Pq
end Go.Proofs.YtcgibpdjfgjldaaGreatDoor
