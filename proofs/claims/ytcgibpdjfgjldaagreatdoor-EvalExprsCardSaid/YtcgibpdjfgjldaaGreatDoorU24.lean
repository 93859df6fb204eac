/- DERIVED. PaDf, PaCl, PaRead, PaRok, PaTp, NmBd. By an AI agent. -/
import Derived.Test.YtcgibpdjfgjldaaGreatDoorU23
import Derived.Test.YtcgibpdjfgjldaaGreatDoorU14
import Derived.Test.YtcgibpdjfgjldaaGreatDoorU19
import Derived.Tactics
import Derived.Defers
import Derived.Recover
set_option maxRecDepth 100000
set_option maxHeartbeats 8000000
set_option linter.unusedVariables false
set_option linter.unusedSimpArgs false
namespace Go.Proofs.YtcgibpdjfgjldaaGreatDoor
namespace Pa
open Go Go.ChangeShapes Go.WideShapes Go.ChangeAt Go.RowKit Lx Args
section
attribute [local go_sem] fTk0 fTk1 fTk2
theorem catch_idle(p q s:Addr)(w:World) :
  CallsD Tryz.prog 100 #[.pointer (some p),.pointer (some q),.pointer (some s)] .returning w fun e u' w'=>e = .returned (.tuple #[])/\u' = .returning/\w'=w:=by
 have hnil:∀ w:World,(binOp BinOp.neq 20 .nilIface .nilIface).run Tryz.prog w = .ok (.bool false) w:=fun _=>V1
 refine callsD_of_wpS Tryz.func100 rfl fun c₀ cs hu=>?_
 apply wpS_seq;apply wpS_region;simp [wpOpsS,go_sem,recoverD,hu,Tryz.ntmps100,Exit.thenS];refine wpS_of_wp ?_;go_wp2_with fail
 cases c₀
 simp_all [bodyPostS,results,Tryz.results100]
def KW(g a er:Nat)(w:World):Prop:=w.cell? ⟨g,0,none⟩=some (.int .i64 (a:Int))/\w.cell? ⟨g,1,none⟩=some (.int .i64 (er:Int))
theorem KW.of{g a er:Nat}{w:World}{t:TypeId}(h:Blk w g t #[.int .i64 (a:Int),.int .i64 (er:Int)]):KW g a er w:=⟨h.cell 0,h.cell 1⟩
theorem catch_wrong(g a er:Nat)(w:World){n0 n1 n2 n3 n4 n5 a0 q0:Value}(hn:Blk w g 26 #[n0,n1,n2,n3,n4,n5])(ha:Blk w (g+1) 3 #[a0])(he:Blk w (g+2) 27 #[q0]) :
  CallsD Tryz.prog 100 #[.pointer (some ⟨g,0,none⟩),.pointer (some ⟨g+1,0,none⟩),.pointer (some ⟨g+2,0,none⟩)] (.panicking [{ v:=.iface 158 (.agg #[.int .i64 (a:Int),.int .i64 (er:Int)]),recovered:=false }]) w fun e u' w'=>e = .returned (.tuple #[]) /\
   u' = .panicking [{ v:=.iface 158 (.agg #[.int .i64 (a:Int),.int .i64 (er:Int)]),recovered:=true }] /\
   Blk w' g 26 #[.int .i64 0,.string ⟨#[]⟩,.int .u32 0,.int .i64 0,.slice none 0 0,.slice none 0 0]/\Blk w' (g+1) 3 #[.int .i64 (a:Int)]/\Blk w' (g+2) 27 #[.int .i64 (er:Int)]/\Upd (fun b=>g<=b) w w':=by
 have hne:∀ w:World,(binOp BinOp.neq 20 (.iface 158 (.agg #[.int .i64 (a:Int),.int .i64 (er:Int)])) .nilIface).run Tryz.prog w = .ok (.bool true) w:=fun _=>V1
 have hta:∀ w:World,(Instr.typeAssert (.iface 158 (.agg #[.int .i64 (a:Int),.int .i64 (er:Int)])) 20 158 false).run Tryz.prog w = .ok (.agg #[.int .i64 (a:Int),.int .i64 (er:Int)]) w:=fun _=>V1
 refine callsD_of_wpS Tryz.func100 rfl fun c₀ cs hu=>?_
 apply wpS_seq;apply wpS_region;simp [wpOpsS,go_sem,recoverD,hu,Tryz.ntmps100,Exit.thenS];refine wpS_of_wp ?_;simp only [Array.replicate_succ,Array.replicate_zero,List.push_toArray,List.setIfInBounds_toArray,List.set_cons_succ,List.set_cons_zero,List.append_toArray,List.cons_append,List.nil_append];have HNN:=Hi hn;have HAA:=Hi ha;have HEE:=Hi he;clear hn ha he;go_upto_region 3 with fail
 obtain ⟨w1,hw1,hb1,hbw⟩:=alK w #[.int .i64 (a:Int),.int .i64 (er:Int)] 158;have hg0:=HNN.out.lt;have hg1:=HAA.out.lt;have hg2:=HEE.out.lt;have hN:=(HNN.out.below hb1 hg0).drew;have hA:=(HAA.out.below hb1 hg1).drew;have hE:=(HEE.out.below hb1 hg2).drew;have hZ0:KW w.heap.size a er w1.drew:=KW.of hbw.drew;have HBW:=Hi hbw.drew;have HU1:=Hi (show Upd (fun b=>g<=b) w w1.drew from (Upd.of_below hb1 _).drew);rw [hw1];clear hw1 hb1 hbw;obtain ⟨w2,hw2⟩:∃ w2,w1.drew=w2:=⟨_,rfl⟩;refine HT.wp_region (Z:=fun w'=>KW w.heap.size a er w') (S:=fun _=>True) (st:=[]) V1 ?_;rw [hw2] at hN hA hE hZ0 HBW HU1 ⊢;clear hw2;refine HT.takeP (i:=0) (v:=?_) rfl V1 V1 V1 V1 (fun _ _ _ h=>h) (Or.inl ⟨V6,?_⟩) hZ0 (fun _=>trivial) ?_;rotate_left
 ·exact Vm
 (try simp only [HT.pS]);refine HT.takeP (i:=1) (v:=?_) rfl V1 V1 V1 V1 (fun _ _ _ h=>h) (Or.inl ⟨V6,?_⟩) hZ0 (fun _=>trivial) ?_;rotate_left
 ·exact Vm
 (try simp only [HT.pS]);refine HT.takeP (i:=2) (v:=?_) rfl V1 V1 V1 V1 (fun _ _ _ h=>h) (Or.inl ⟨V6,?_⟩) hZ0 (fun _=>trivial) ?_;rotate_left
 ·exact Vm
 (try simp only [HT.pS]);refine HT.takeP (i:=3) (v:=?_) rfl V1 V1 V1 V1 (fun _ _ _ h=>h) (Or.inl ⟨V6,?_⟩) hZ0 (fun _=>trivial) ?_;rotate_left
 ·exact Vm
 (try simp only [HT.pS]);refine HT.takeP (i:=4) (v:=?_) rfl V1 V1 V1 V1 (fun _ _ _ h=>h) (Or.inl ⟨V6,?_⟩) hZ0 (fun _=>trivial) ?_;rotate_left
 ·exact Vm
 (try simp only [HT.pS]);obtain ⟨⟨e0,e1,e2,e3,e4,e5⟩,z0,z1,z2,z3,z4,z5⟩:=Blk.c6 hN;have c1:w2.cell? ⟨g+1,0,none⟩=some a0:=hA.cell 0;have c2:w2.cell? ⟨g+2,0,none⟩=some q0:=hE.cell 0;have f1:=hA.frozen 0;have hgw:w.heap.size≠g:=V0;have hgw1:w.heap.size≠g+1:=V0;have hgw2:w.heap.size≠g+2:=V0;have f2:=hE.frozen 0;refine HT.one (i:=5) V1 rfl (fun K hK=>?_);go_simp;refine hK.out _ _ (KW.of (q0e HBW.out hgw _ _ _ _ _ _)) trivial ?_;clear hK K;(try simp only [HT.pS]);refine HT.one (i:=6) V1 rfl (fun K hK=>?_);go_simp;refine hK.out _ _ (KW.of ((q0e HBW.out hgw _ _ _ _ _ _).far (p:=⟨g+1,0,none⟩) hgw1 _)) trivial ?_;clear hK K;(try simp only [HT.pS]);refine HT.one (i:=7) V1 rfl (fun K hK=>?_);go_simp;refine hK.out _ _ (KW.of (((q0e HBW.out hgw _ _ _ _ _ _).far (p:=⟨g+1,0,none⟩) hgw1 _).far (p:=⟨g+2,0,none⟩) hgw2 _)) trivial ?_;clear hK K;refine HT.done V1 ?_;(try simp only [HT.pS]);have hg01:g≠g+1:=V0;have hg02:g≠g+2:=V0;have hg12:g+1≠g+2:=V0;have hNN:=((Blk.put6 hN (.int .i64 0) (.string ⟨#[]⟩) (.int .u32 0) (.int .i64 0) (.slice none 0 0) (.slice none 0 0)).far (p:=⟨g+1,0,none⟩) hg01 (.int .i64 (a:Int))).far (p:=⟨g+2,0,none⟩) hg02 (.int .i64 (er:Int));have hAA:Blk _ (g+1) 3 #[.int .i64 (a:Int)]:=((q0e hA (Ne.symm hg01) (.int .i64 0) (.string ⟨#[]⟩) (.int .u32 0) (.int .i64 0) (.slice none 0 0) (.slice none 0 0)).set 0 (.int .i64 (a:Int))).far (p:=⟨g+2,0,none⟩) hg12 (.int .i64 (er:Int));have hEE:Blk _ (g+2) 27 #[.int .i64 (er:Int)]:=((q0e hE (Ne.symm hg02) (.int .i64 0) (.string ⟨#[]⟩) (.int .u32 0) (.int .i64 0) (.slice none 0 0) (.slice none 0 0)).far (p:=⟨g+1,0,none⟩) (Ne.symm hg12) (.int .i64 (a:Int))).set 0 (.int .i64 (er:Int));have hUU:=((q02 HU1.out (fun _=>Nat.le_refl g) (.int .i64 0) (.string ⟨#[]⟩) (.int .u32 0) (.int .i64 0) (.slice none 0 0) (.slice none 0 0)).setCell (p:=⟨g+1,0,none⟩) (fun _=>V0s) (.int .i64 (a:Int))).setCell (p:=⟨g+2,0,none⟩) (fun _=>V0t) (.int .i64 (er:Int));exact ⟨rfl,_,rfl,_,results_none rfl _ _ _,rfl,rfl,hNN,hAA,hEE,hUU⟩
end
section
attribute [local go_sem] fTk0 fTk1 fTk2
def ExprR(l:List Tk)(o:Out):Prop:=Rd numV (.lev 0) 0 l o
theorem q3B(w:World)(bp:Nat)(l:List Tk)(hp:PS w bp l 0)(hg:Gt l):Calls Tryz.prog 97 #[.pointer (some ⟨bp,0,none⟩)] w (OutP w bp 0 (tX :: l) (ProgR l)):=program w bp l hp hg
theorem q5Q(w:World)(bp:Nat)(l:List Tk)(hp:PS w bp l 0)(hg:Gt l):Calls Tryz.prog 69 #[.pointer (some ⟨bp,0,none⟩)] w (OutP w bp 0 (tX :: l) (ExprR l)):=by
 refine (ex l.length w bp 0 l (Nat.le_refl _) V0 hp hg).mono fun e w' h=>?_
 rcases h with ⟨k,a,s,n,A,la,cA,B,lb,cB,x,r,h1,h2,h3,h4,h5,h6,h7⟩ | h
 ·exact .inl ⟨k,a,s,n,A,la,cA,B,lb,cB,x,r,h1,h2,h3,h4,h5,VD,h7⟩
 ·exact .inr h
theorem q5R(w:World)(bp:Nat)(l:List Tk)(hp:PS w bp l 0)(hg:Gt l) :
  Calls Tryz.prog 96 #[.pointer (some ⟨bp,0,none⟩)] w (OutP w bp 0 (tX :: l) (ProgR l)):=by
 obtain ⟨w0,hw0,hb0,hB⟩:=alK w #[.int .i64 0,.string ⟨#[]⟩,.int .u32 0,.int .i64 0,.slice none 0 0,.slice none 0 0] 26;have hlt:=hp.lt;have HS:=Hi (q3B w0 bp l (hp.below hb0) hg);have HB0:=Hi hb0;have HB:=Hi hB;have HW:=Hi hw0;clear hb0 hp hw0 hB hg;go_enter Tryz.func96,Tryz.ntmps96;go_wp2_with fail
 rw [HW.out];refine HS.out.mono ?_;rintro e w1 (⟨k,a,s,n,A,la,cA,B,lb,cB,x,r,rfl,hT,hR,hP,hG,hr,hU⟩ | ⟨a,er,rfl,hR,hU⟩)
 ·exact V1d
 ·exact V1m
theorem cl_expr(w:World)(bp:Nat)(l:List Tk)(hp:PS w bp l 0)(hg:Gt l) :
  Calls Tryz.prog 68 #[.pointer (some ⟨bp,0,none⟩)] w (OutP w bp 0 (tX :: l) (ExprR l)):=by
 obtain ⟨w0,hw0,hb0,hB⟩:=alK w #[.int .i64 0,.string ⟨#[]⟩,.int .u32 0,.int .i64 0,.slice none 0 0,.slice none 0 0] 26;have hlt:=hp.lt;have HS:=Hi (q5Q w0 bp l (hp.below hb0) hg);have HB0:=Hi hb0;have HB:=Hi hB;have HW:=Hi hw0;clear hb0 hp hw0 hB hg;go_enter Tryz.func68,Tryz.ntmps68;go_wp2_with fail
 rw [HW.out];refine HS.out.mono ?_;rintro e w1 (⟨k,a,s,n,A,la,cA,B,lb,cB,x,r,rfl,hT,hR,hP,hG,hr,hU⟩ | ⟨a,er,rfl,hR,hU⟩)
 ·exact V1d
 ·exact V1m
def BadR(R:List Tk->Out->Prop)(W:Wd)(a er:Nat):Prop:=(W.er≠0/\a=W.at_/\er=W.er)\/(W.er = 0/\(R W.l (.bad a er)\/∃ xs t r,R W.l (.ok xs (t :: r))/\t.k≠0/\a=t.at_/\er = 100))
def RdP(R:List Tk->Out->Prop)(s:ByteArray)(w:World)(e:Ending)(w':World):Prop:=
 (∃ k a sx n A la cA B lb cB x t r,e = .returned (.tuple #[.agg #[.int .i64 (k:Nat),.string ⟨(sx:Bs).toArray⟩,.int .u32 (n:Nat),.int .i64 (a:Nat),.slice A la cA,.slice B lb cB],.int .i64 0,.int .i64 0])/\(wordsL s.data.toList).er = 0/\R (wordsL s.data.toList).l (.ok [x] (t :: r))/\t.k = 0 /\
  TIn (fun b=>w.heap.size<=b) w' x (ndC k a sx n A la cA B lb cB)/\Below w.heap.size w w') \/
 (∃ a er,e = .returned (.tuple #[.agg #[.int .i64 0,.string ⟨#[]⟩,.int .u32 0,.int .i64 0,.slice none 0 0,.slice none 0 0],.int .i64 (a:Nat),.int .i64 (er:Nat)])/\BadR R (wordsL s.data.toList) a er/\Below w.heap.size w w')
theorem q8R:∀ (f:Nat) (bs:Bs) (i n:Nat),n<=4000->(goL f bs i n).l.length+n<=4000
 | 0,_,_,n,h=>by show 0+n<=4000;omega
 | f+1,[],i,n,h=>by
  show (if n = 4000 then (⟨[],i,150⟩:Wd) else ⟨[⟨0,[],i⟩],0,0⟩).l.length+n<=4000;split
  ·show 0+n<=4000;omega
  ·show 1+n<=4000;omega
 | f+1,c :: r,i,n,h=>by
  rcases ht:tokC c r with _ | ⟨k,m⟩
  ·rw [q3h ht];show 0+n<=4000;omega
  ·rw [q1Q ht];split
   ·show 0+n<=4000;omega
   ·have:=q8R f (restL ((c :: r).drop m)) (i+m+skipL false ((c :: r).drop m)) (n+1) V0;unfold Wd.cons;split
    ·show (goL f _ _ _).l.length+1+n<=4000;omega
    ·omega
theorem q72(s:Bs):(wordsL s).l.length<=4000:=by
 unfold wordsL;split
 ·exact Nat.zero_le _
 ·have:=q8R (s.length+1) (s.drop (skipL false s)) (skipL false s) 0 (Nat.zero_le _);omega
theorem q2A{s:Bs}(h:(wordsL s).er = 0):Gt (wordsL s).l:=by
 refine ⟨q5d h,fun t ht=>⟨q64 s t ht,?_⟩,?_⟩
 ·obtain ⟨j,hj,hjt⟩:=List.getElem_of_mem ht;have hx:(wordsL s).l[j]?=some t:=by rw [List.getElem?_eq_getElem hj,hjt]
  have h1:=(q1M s h).2 j t hx;have h2:s.length<=20000:=by
   rcases Nat.lt_or_ge 20000 s.length with h3 | h3
   ·rw [q28 _ h3] at h;exact absurd h V0m
   ·exact h3
  have h3:((s.drop t.at_).take t.s.length).length=t.s.length:=by rw [h1.2.1]
  rw [List.length_take,List.length_drop] at h3;omega
 ·exact q72 s
end
section
attribute [local go_sem] fTk0 fTk1 fTk2
theorem boxes(w:World):∃ w0,((w.alloc (.cells #[.int .i64 0,.string ⟨#[]⟩,.int .u32 0,.int .i64 0,.slice none 0 0,.slice none 0 0] 26)).alloc (.cells #[.int .i64 0] 3)).alloc (.cells #[.int .i64 0] 27)=w0/\Below w.heap.size w w0/\w0.heap.size=w.heap.size+3 /\
  Blk w0 w.heap.size 26 #[.int .i64 0,.string ⟨#[]⟩,.int .u32 0,.int .i64 0,.slice none 0 0,.slice none 0 0]/\Blk w0 (w.heap.size+1) 3 #[.int .i64 0]/\Blk w0 (w.heap.size+2) 27 #[.int .i64 0]:=by
 refine ⟨_,rfl,(((Below.refl _ _).alloc (Nat.le_refl _) _).alloc V3 _).alloc V4 _,V3,((Blk.new _ _ _).alloc _).alloc _,?_,?_⟩
 ·have h:=(Blk.new (w.alloc (.cells #[.int .i64 0,.string ⟨#[]⟩,.int .u32 0,.int .i64 0,.slice none 0 0,.slice none 0 0] 26)) 3 #[.int .i64 0]).alloc (.cells #[.int .i64 0] 27);have e:(w.alloc (.cells #[.int .i64 0,.string ⟨#[]⟩,.int .u32 0,.int .i64 0,.slice none 0 0,.slice none 0 0] 26)).heap.size=w.heap.size+1:=V3;rw [e] at h;exact h
 ·have h:=Blk.new ((w.alloc (.cells #[.int .i64 0,.string ⟨#[]⟩,.int .u32 0,.int .i64 0,.slice none 0 0,.slice none 0 0] 26)).alloc (.cells #[.int .i64 0] 3)) 27 #[.int .i64 0];have e:((w.alloc (.cells #[.int .i64 0,.string ⟨#[]⟩,.int .u32 0,.int .i64 0,.slice none 0 0,.slice none 0 0] 26)).alloc (.cells #[.int .i64 0] 3)).heap.size=w.heap.size+2:=V3;rw [e] at h;exact h
theorem res3{g:Nat}{n:Array Value}{a b:Value}{W:World}(hN:Blk W g 26 n)(hs:some 6=some n.size)(hA:Blk W (g+1) 3 #[a])(hE:Blk W (g+2) 27 #[b])(tmps:Array Value)
  (h4:tmps.getD 4 undef = .pointer (some ⟨g,0,none⟩)) (h5:tmps.getD 5 undef = .pointer (some ⟨g+1,0,none⟩)) (h6:tmps.getD 6 undef = .pointer (some ⟨g+2,0,none⟩)) :
  (results Tryz.f67 tmps).run Tryz.prog W = .ok (.tuple #[.agg n,a,b]) W:=
 q1N rfl tmps W g (g+1) (g+2) (.agg n) a b h4 h5 h6 (run_loadVar_row W g 26 26 n (0,0) _ hN Tryz.underlying26 rfl (szNd.trans hs)) (q03 (isAggI W) (hA.cell 0)) (q03 (isAggE W) (hE.cell 0))
def KA2(g a er:Nat)(w:World):Prop:=w.cell? ⟨g+1,0,none⟩=some (.int .i64 (a:Int))/\w.cell? ⟨g+2,0,none⟩=some (.int .i64 (er:Int))
theorem KA2.of{g a er:Nat}{w:World}(h:Blk w (g+1) 3 #[.int .i64 (a:Int)])(h2:Blk w (g+2) 27 #[.int .i64 (er:Int)]):KA2 g a er w:=⟨h.cell 0,h2.cell 0⟩
theorem q2q(s:ByteArray)(w:World)(h:(wordsL s.data.toList).er≠0) :
  Calls Tryz.prog 67 #[.string s,.func (.func 96) #[] #[]] w (RdP ProgR s w):=by
 obtain ⟨w0,hw0,hb0,hs0,hN,hA,hE⟩:=boxes w;have hwd:=pwords s w0;have hnil:=q3M s.data.toList h;have HBAD:=Hi (show BadR ProgR (wordsL s.data.toList) (wordsL s.data.toList).at_ (wordsL s.data.toList).er from .inl ⟨h,rfl,rfl⟩);have hne:(((wordsL s.data.toList).er:Int) != 0)=true:=V4;unfold PWordsP at hwd;obtain ⟨a,ha⟩:∃ a,(wordsL s.data.toList).at_=a:=⟨_,rfl⟩;obtain ⟨er,her⟩:∃ er,(wordsL s.data.toList).er=er:=⟨_,rfl⟩;rw [ha,her] at HBAD hwd;rw [her] at hne;have HWD:=Hi hwd;have HB0:=Hi hb0;have HN:=Hi hN;have HA:=Hi hA;have HE:=Hi hE;have HW:=Hi hw0;obtain ⟨g,hg⟩:∃ g,w.heap.size=g:=⟨_,rfl⟩;have HG:=Hi hg;rw [hg] at HN HA HE;clear hb0 hN hA hE hw0 h hnil hwd ha her;go_enter Tryz.func67,Tryz.ntmps67;go_wp2_with fail
 simp only [Nat.add_assoc,Nat.reduceAdd];rw [HW.out];refine HWD.out.mono ?_;rintro e w1 ⟨A,c,rfl,hL,hb1,hc1,hc2⟩;have hN1:=HN.out.below hb1 HN.out.lt;have hA1:=HA.out.below hb1 HA.out.lt;have hE1:=HE.out.below hb1 HE.out.lt;obtain ⟨⟨e0,e1,e2,e3,e4,e5⟩,z0,z1,z2,z3,z4,z5⟩:=Blk.c6 hN1;have c1:w1.cell? ⟨g+1,0,none⟩=some (.int .i64 0):=hA1.cell 0;have c2:w1.cell? ⟨g+2,0,none⟩=some (.int .i64 0):=hE1.cell 0;have f1:=hA1.frozen 0;have f2:=hE1.frozen 0;have HN1:=Hi hN1;have HA1:=Hi hA1;have HE1:=Hi hE1;have HB1:=Hi (HB0.out.trans (hb1.mono HB0.out.size));clear hN1 hA1 hE1 hL hc1 hc2;go_upto_region 3 with fail
 obtain ⟨w2,hw2⟩:∃ w2,(w1.setCell ⟨g+1,0,none⟩ (.int .i64 (a:Int))).setCell ⟨g+2,0,none⟩ (.int .i64 (er:Int))=w2:=⟨_,rfl⟩;have hg01:g≠g+1:=V0;have hg02:g≠g+2:=V0;have hg12:g+1≠g+2:=V0;have hN2:Blk w2.drew g 26 #[.int .i64 0,.string ⟨#[]⟩,.int .u32 0,.int .i64 0,.slice none 0 0,.slice none 0 0]:=V3O;have hA2:Blk w2.drew (g+1) 3 #[.int .i64 (a:Int)]:=V3P;have hE2:Blk w2.drew (g+2) 27 #[.int .i64 (er:Int)]:=V3Q;have hb2:Below w.heap.size w w2.drew:=V38;rw [hw2];clear hw2 e0 e1 e2 e3 e4 e5 z0 z1 z2 z3 z4 z5 c1 c2 f1 f2;refine HT.wp_region (Z:=fun w'=>KA2 g a er w') (S:=fun _=>True) (st:=[]) V1 ?_;obtain ⟨w3,hw3⟩:∃ w3,w2.drew=w3:=⟨_,rfl⟩;rw [hw3] at hN2 hA2 hE2 hb2 ⊢;clear hw3;have hZ0:KA2 g a er w3:=KA2.of hA2 hE2;refine HT.takeP (i:=0) (v:=?_) rfl V1 V1 V1 V1 (fun _ _ _ h=>h) (Or.inl ⟨V6,?_⟩) hZ0 (fun _=>trivial) ?_;rotate_left
 ·exact Vm
 (try simp only [HT.pS]);refine HT.takeP (i:=1) (v:=?_) rfl V1 V1 V1 V1 (fun _ _ _ h=>h) (Or.inl ⟨V6,?_⟩) hZ0 (fun _=>trivial) ?_;rotate_left
 ·exact Vm
 (try simp only [HT.pS]);refine HT.takeP (i:=2) (v:=?_) rfl V1 V1 V1 V1 (fun _ _ _ h=>h) (Or.inl ⟨V6,?_⟩) hZ0 (fun _=>trivial) ?_;rotate_left
 ·exact Vm
 (try simp only [HT.pS]);obtain ⟨⟨e0,e1,e2,e3,e4,e5⟩,z0,z1,z2,z3,z4,z5⟩:=Blk.c6 hN2;have c1:w3.cell? ⟨g+1,0,none⟩=some (.int .i64 (a:Int)):=hA2.cell 0;have c2:w3.cell? ⟨g+2,0,none⟩=some (.int .i64 (er:Int)):=hE2.cell 0;have f1:=hA2.frozen 0;have f2:=hE2.frozen 0;have hA3:Blk _ (g+1) 3 #[.int .i64 (a:Int)]:=q0e hA2 (Ne.symm hg01) (.int .i64 0) (.string ⟨#[]⟩) (.int .u32 0) (.int .i64 0) (.slice none 0 0) (.slice none 0 0);have hE3:Blk _ (g+2) 27 #[.int .i64 (er:Int)]:=q0e hE2 (Ne.symm hg02) (.int .i64 0) (.string ⟨#[]⟩) (.int .u32 0) (.int .i64 0) (.slice none 0 0) (.slice none 0 0);have hN3:=Blk.put6 hN2 (.int .i64 0) (.string ⟨#[]⟩) (.int .u32 0) (.int .i64 0) (.slice none 0 0) (.slice none 0 0);have hA4:Blk _ (g+1) 3 #[.int .i64 (a:Int)]:=hA3.set 0 (.int .i64 (a:Int));have hE4:=hE3.far (p:=⟨g+1,0,none⟩) (Ne.symm hg12) (.int .i64 (a:Int));have hN4:=hN3.far (p:=⟨g+1,0,none⟩) hg01 (.int .i64 (a:Int));have hA5:=hA4.far (p:=⟨g+2,0,none⟩) hg12 (.int .i64 (er:Int));have hE5:Blk _ (g+2) 27 #[.int .i64 (er:Int)]:=hE4.set 0 (.int .i64 (er:Int));have hN5:=hN4.far (p:=⟨g+2,0,none⟩) hg02 (.int .i64 (er:Int));have hu5:=((q02 (X:=fun b=>g<=b) (Upd.of_below hb2 _) (fun _=>Nat.le_refl g) (.int .i64 0) (.string ⟨#[]⟩) (.int .u32 0) (.int .i64 0) (.slice none 0 0) (.slice none 0 0)).setCell (p:=⟨g+1,0,none⟩) (fun _=>V0s) (.int .i64 (a:Int))).setCell (p:=⟨g+2,0,none⟩) (fun _=>V0t) (.int .i64 (er:Int));have HEND:=Hi (show RdP ProgR s w (.returned (.tuple #[.agg #[.int .i64 0,.string ⟨#[]⟩,.int .u32 0,.int .i64 0,.slice none 0 0,.slice none 0 0],.int .i64 (a:Int),.int .i64 (er:Int)])) _ from .inr ⟨a,er,rfl,HBAD.out,hu5.below (Nat.le_refl _) fun k hk=>V0⟩);refine HT.one (i:=3) V1 rfl (fun K hK=>?_);go_simp;refine hK.out _ _ (KA2.of hA3 hE3) trivial ?_;clear hK K;(try simp only [HT.pS]);refine HT.one (i:=4) V1 rfl (fun K hK=>?_);go_simp;refine hK.out _ _ (KA2.of hA4 hE4) trivial ?_;clear hK K;(try simp only [HT.pS]);refine HT.one (i:=5) V1 rfl (fun K hK=>?_);go_simp;refine hK.out _ _ (KA2.of hA5 hE5) trivial ?_;clear hK K;(try simp only [HT.pS]);refine HT.done V1 ?_;dsimp only [Exit.then];(try simp only [HT.pS]);have HN5:=Hi hN5;have HA5:=Hi hA5;have HE5:=Hi hE5;clear hN2 hA2 hE2 hN3 hA3 hE3 hN4 hA4 hE4 hN5 hA5 hE5 hu5 hb2 hZ0;go_wp2_with fail
 exact bodyPost_ret (res3 HN5.out rfl HA5.out HE5.out _ rfl rfl rfl) rfl HEND.out
theorem q3C(s:ByteArray)(w:World)(h:(wordsL s.data.toList).er≠0) :
  Calls Tryz.prog 67 #[.string s,.func (.func 68) #[] #[]] w (RdP ExprR s w):=by
 obtain ⟨w0,hw0,hb0,hs0,hN,hA,hE⟩:=boxes w;have hwd:=pwords s w0;have hnil:=q3M s.data.toList h;have HBAD:=Hi (show BadR ExprR (wordsL s.data.toList) (wordsL s.data.toList).at_ (wordsL s.data.toList).er from .inl ⟨h,rfl,rfl⟩);have hne:(((wordsL s.data.toList).er:Int) != 0)=true:=V4;unfold PWordsP at hwd;obtain ⟨a,ha⟩:∃ a,(wordsL s.data.toList).at_=a:=⟨_,rfl⟩;obtain ⟨er,her⟩:∃ er,(wordsL s.data.toList).er=er:=⟨_,rfl⟩;rw [ha,her] at HBAD hwd;rw [her] at hne;have HWD:=Hi hwd;have HB0:=Hi hb0;have HN:=Hi hN;have HA:=Hi hA;have HE:=Hi hE;have HW:=Hi hw0;obtain ⟨g,hg⟩:∃ g,w.heap.size=g:=⟨_,rfl⟩;have HG:=Hi hg;rw [hg] at HN HA HE;clear hb0 hN hA hE hw0 h hnil hwd ha her;go_enter Tryz.func67,Tryz.ntmps67;go_wp2_with fail
 simp only [Nat.add_assoc,Nat.reduceAdd];rw [HW.out];refine HWD.out.mono ?_;rintro e w1 ⟨A,c,rfl,hL,hb1,hc1,hc2⟩;have hN1:=HN.out.below hb1 HN.out.lt;have hA1:=HA.out.below hb1 HA.out.lt;have hE1:=HE.out.below hb1 HE.out.lt;obtain ⟨⟨e0,e1,e2,e3,e4,e5⟩,z0,z1,z2,z3,z4,z5⟩:=Blk.c6 hN1;have c1:w1.cell? ⟨g+1,0,none⟩=some (.int .i64 0):=hA1.cell 0;have c2:w1.cell? ⟨g+2,0,none⟩=some (.int .i64 0):=hE1.cell 0;have f1:=hA1.frozen 0;have f2:=hE1.frozen 0;have HN1:=Hi hN1;have HA1:=Hi hA1;have HE1:=Hi hE1;have HB1:=Hi (HB0.out.trans (hb1.mono HB0.out.size));clear hN1 hA1 hE1 hL hc1 hc2;go_upto_region 3 with fail
 obtain ⟨w2,hw2⟩:∃ w2,(w1.setCell ⟨g+1,0,none⟩ (.int .i64 (a:Int))).setCell ⟨g+2,0,none⟩ (.int .i64 (er:Int))=w2:=⟨_,rfl⟩;have hg01:g≠g+1:=V0;have hg02:g≠g+2:=V0;have hg12:g+1≠g+2:=V0;have hN2:Blk w2.drew g 26 #[.int .i64 0,.string ⟨#[]⟩,.int .u32 0,.int .i64 0,.slice none 0 0,.slice none 0 0]:=V3O;have hA2:Blk w2.drew (g+1) 3 #[.int .i64 (a:Int)]:=V3P;have hE2:Blk w2.drew (g+2) 27 #[.int .i64 (er:Int)]:=V3Q;have hb2:Below w.heap.size w w2.drew:=V38;rw [hw2];clear hw2 e0 e1 e2 e3 e4 e5 z0 z1 z2 z3 z4 z5 c1 c2 f1 f2;refine HT.wp_region (Z:=fun w'=>KA2 g a er w') (S:=fun _=>True) (st:=[]) V1 ?_;obtain ⟨w3,hw3⟩:∃ w3,w2.drew=w3:=⟨_,rfl⟩;rw [hw3] at hN2 hA2 hE2 hb2 ⊢;clear hw3;have hZ0:KA2 g a er w3:=KA2.of hA2 hE2;refine HT.takeP (i:=0) (v:=?_) rfl V1 V1 V1 V1 (fun _ _ _ h=>h) (Or.inl ⟨V6,?_⟩) hZ0 (fun _=>trivial) ?_;rotate_left
 ·exact Vm
 (try simp only [HT.pS]);refine HT.takeP (i:=1) (v:=?_) rfl V1 V1 V1 V1 (fun _ _ _ h=>h) (Or.inl ⟨V6,?_⟩) hZ0 (fun _=>trivial) ?_;rotate_left
 ·exact Vm
 (try simp only [HT.pS]);refine HT.takeP (i:=2) (v:=?_) rfl V1 V1 V1 V1 (fun _ _ _ h=>h) (Or.inl ⟨V6,?_⟩) hZ0 (fun _=>trivial) ?_;rotate_left
 ·exact Vm
 (try simp only [HT.pS]);obtain ⟨⟨e0,e1,e2,e3,e4,e5⟩,z0,z1,z2,z3,z4,z5⟩:=Blk.c6 hN2;have c1:w3.cell? ⟨g+1,0,none⟩=some (.int .i64 (a:Int)):=hA2.cell 0;have c2:w3.cell? ⟨g+2,0,none⟩=some (.int .i64 (er:Int)):=hE2.cell 0;have f1:=hA2.frozen 0;have f2:=hE2.frozen 0;have hA3:Blk _ (g+1) 3 #[.int .i64 (a:Int)]:=q0e hA2 (Ne.symm hg01) (.int .i64 0) (.string ⟨#[]⟩) (.int .u32 0) (.int .i64 0) (.slice none 0 0) (.slice none 0 0);have hE3:Blk _ (g+2) 27 #[.int .i64 (er:Int)]:=q0e hE2 (Ne.symm hg02) (.int .i64 0) (.string ⟨#[]⟩) (.int .u32 0) (.int .i64 0) (.slice none 0 0) (.slice none 0 0);have hN3:=Blk.put6 hN2 (.int .i64 0) (.string ⟨#[]⟩) (.int .u32 0) (.int .i64 0) (.slice none 0 0) (.slice none 0 0);have hA4:Blk _ (g+1) 3 #[.int .i64 (a:Int)]:=hA3.set 0 (.int .i64 (a:Int));have hE4:=hE3.far (p:=⟨g+1,0,none⟩) (Ne.symm hg12) (.int .i64 (a:Int));have hN4:=hN3.far (p:=⟨g+1,0,none⟩) hg01 (.int .i64 (a:Int));have hA5:=hA4.far (p:=⟨g+2,0,none⟩) hg12 (.int .i64 (er:Int));have hE5:Blk _ (g+2) 27 #[.int .i64 (er:Int)]:=hE4.set 0 (.int .i64 (er:Int));have hN5:=hN4.far (p:=⟨g+2,0,none⟩) hg02 (.int .i64 (er:Int));have hu5:=((q02 (X:=fun b=>g<=b) (Upd.of_below hb2 _) (fun _=>Nat.le_refl g) (.int .i64 0) (.string ⟨#[]⟩) (.int .u32 0) (.int .i64 0) (.slice none 0 0) (.slice none 0 0)).setCell (p:=⟨g+1,0,none⟩) (fun _=>V0s) (.int .i64 (a:Int))).setCell (p:=⟨g+2,0,none⟩) (fun _=>V0t) (.int .i64 (er:Int));have HEND:=Hi (show RdP ExprR s w (.returned (.tuple #[.agg #[.int .i64 0,.string ⟨#[]⟩,.int .u32 0,.int .i64 0,.slice none 0 0,.slice none 0 0],.int .i64 (a:Int),.int .i64 (er:Int)])) _ from .inr ⟨a,er,rfl,HBAD.out,hu5.below (Nat.le_refl _) fun k hk=>V0⟩);refine HT.one (i:=3) V1 rfl (fun K hK=>?_);go_simp;refine hK.out _ _ (KA2.of hA3 hE3) trivial ?_;clear hK K;(try simp only [HT.pS]);refine HT.one (i:=4) V1 rfl (fun K hK=>?_);go_simp;refine hK.out _ _ (KA2.of hA4 hE4) trivial ?_;clear hK K;(try simp only [HT.pS]);refine HT.one (i:=5) V1 rfl (fun K hK=>?_);go_simp;refine hK.out _ _ (KA2.of hA5 hE5) trivial ?_;clear hK K;(try simp only [HT.pS]);refine HT.done V1 ?_;dsimp only [Exit.then];(try simp only [HT.pS]);have HN5:=Hi hN5;have HA5:=Hi hA5;have HE5:=Hi hE5;clear hN2 hA2 hE2 hN3 hA3 hE3 hN4 hA4 hE4 hN5 hA5 hE5 hu5 hb2 hZ0;go_wp2_with fail
 exact bodyPost_ret (res3 HN5.out rfl HA5.out HE5.out _ rfl rfl rfl) rfl HEND.out
end
section
attribute [local go_sem] fTk0 fTk1 fTk2
theorem q8S{w:World}{g:Nat}{t:TypeId}{x:Value}(h:Blk w g t #[x]){b o:Nat}{v:Value}(hc:w.cell? ⟨b,o+1,none⟩=some v):b≠g:=by
 rintro rfl;rw [h.cell (o+1)] at hc;simp at hc
theorem PS.node{w w':World}{bp d g:Nat}{t:Tk}{r:List Tk}{ty:TypeId}{k a:Int}{s:ByteArray}{n:Int}{A B:Option Addr}{la cA lb cB:Nat}(h:PS w bp (t :: r) d)(hb:Blk w g ty #[.int .i64 k,.string s,.int .u32 n,.int .i64 a,.slice A la cA,.slice B lb cB])(hu:Upd (fun b=>b=g) w w')(hg:bp≠g):PS w' bp (t :: r) d:=by
 obtain ⟨b,o,c,hn,h1,h2,h3,h4⟩:=h;have hne:b≠g:=by
  rintro rfl;have e0:=h2 0 _ (show ((t :: r).flatMap tkC)[0]?=some (.int .i64 (t.k:Int)) from rfl);have e1:=h2 1 _ (show ((t :: r).flatMap tkC)[1]?=some (.string ⟨t.s.toArray⟩) from rfl);have e2:=h2 2 _ (show ((t :: r).flatMap tkC)[2]?=some (.int .i64 (t.at_:Int)) from rfl);obtain ⟨a0,q0,e0⟩:=e0;obtain ⟨a1,q1,e1⟩:=e1;obtain ⟨a2,q2,e2⟩:=e2;cases q0;cases q1;cases q2;rw [Args.add_plain,hb.cell] at e0 e1 e2
  match o with
  | 0=>simp at e2
  | 1=>simp at e0
  | 2=>simp at e0
  | 3=>simp at e1
  | 4=>simp at e0
  | 5=>simp at e0
  | o+6=>simp at e0
 exact ⟨b,o,c,hn,h1.upd hu hg,hu.lies h2 fun b' o' e _ hx=>by cases e;exact hne hx,h3,h4⟩
theorem q2T(s:ByteArray)(w:World)(h:(wordsL s.data.toList).er = 0) :
  Calls Tryz.prog 67 #[.string s,.func (.func 96) #[] #[]] w (RdP ProgR s w):=by
 obtain ⟨w0,hw0,hb0,hs0,hN,hA,hE⟩:=boxes w;have hwd:=pwords s w0;have hgt:=q2A h;unfold PWordsP at hwd;rw [h] at hwd;obtain ⟨L,hL⟩:∃ L,(wordsL s.data.toList).l=L:=⟨_,rfl⟩;obtain ⟨at0,ha⟩:∃ a,(wordsL s.data.toList).at_=a:=⟨_,rfl⟩;rw [hL,ha] at hwd;rw [hL] at hgt;have HWD:=Hi hwd;have HER:=Hi h;have HLL:=Hi hL;have HGT:=Hi hgt;have HB0:=Hi hb0;have HN:=Hi hN;have HA:=Hi hA;have HE:=Hi hE;have HW:=Hi hw0;obtain ⟨g,hg⟩:∃ g,w.heap.size=g:=⟨_,rfl⟩;rw [hg] at HN HA HE;have hmf:∀ (fn:Fn) (first cap:Array Value) (w:World),(Instr.makeFunc fn first cap).run Tryz.prog w = .ok (.func fn first cap) w:=fun _ _ _ _=>rfl
 clear hb0 hN hA hE hw0 h hwd ha hL hgt
 go_enter_defers Tryz.func67,Tryz.ntmps67
 go_wp2_with fail
 simp only [Nat.add_assoc,Nat.reduceAdd];rw [HW.out];refine HWD.out.mono ?_;rintro e w1 ⟨A,c,rfl,hL,hb1,hc1,hc2⟩;have hN1:=HN.out.below hb1 HN.out.lt;have hA1:=HA.out.below hb1 HA.out.lt;have hE1:=HE.out.below hb1 HE.out.lt;have hEl:=hE1.lt;obtain ⟨⟨e0,e1,e2,e3,e4,e5⟩,z0,z1,z2,z3,z4,z5⟩:=Blk.c6 hN1;have c1:w1.cell? ⟨g+1,0,none⟩=some (.int .i64 0):=hA1.cell 0;have c2:w1.cell? ⟨g+2,0,none⟩=some (.int .i64 0):=hE1.cell 0;have f1:=hA1.frozen 0;have f2:=hE1.frozen 0;have hb01:Below w.heap.size w w1:=HB0.out.trans (hb1.mono HB0.out.size);have hg01:g≠g+1:=V0;have hg02:g≠g+2:=V0;have hg12:g+1≠g+2:=V0;obtain ⟨t0,r0,hL0⟩:=HGT.out.cons;obtain ⟨b,o,rfl,hbl,hcc⟩:=hL.at_ (j:=0) (u:=.int .i64 (t0.k:Int)) V1b;have HLI:=Hi hL;have HN1:=Hi hN1;have HA1:=Hi hA1;have HE1:=Hi hE1;have HB1:=Hi hb01;have hcc1:=hcc 1 (.string ⟨t0.s.toArray⟩) V1b;clear hN1 hA1 hE1 hL hb01 hL0 hcc hb1;go_wp2_with fail
 obtain ⟨w2,hw2⟩:∃ w2,((w1.setCell ⟨g+1,0,none⟩ (.int .i64 (at0:Int))).setCell ⟨g+2,0,none⟩ (.int .i64 0)).alloc (.cells #[.slice (some ⟨b,o,none⟩) L.length c,.int .i64 0] 162)=w2:=⟨_,rfl⟩;have hs12:((w1.setCell ⟨g+1,0,none⟩ (.int .i64 (at0:Int))).setCell ⟨g+2,0,none⟩ (.int .i64 0)).heap.size=w1.heap.size:=V3;have hu12:Upd (fun k=>k=g+1\/k=g+2) w1 w2:=V39;have hN2:Blk w2 g 26 #[.int .i64 0,.string ⟨#[]⟩,.int .u32 0,.int .i64 0,.slice none 0 0,.slice none 0 0]:=HN1.out.upd hu12 V0;have hA2:Blk w2 (g+1) 3 #[.int .i64 (at0:Int)]:=V3R;have hE2:Blk w2 (g+2) 27 #[.int .i64 0]:=V3S;have hp2:PS w2 w1.heap.size L 0:=by
  exact V2S
 have hu2:Upd (fun k=>g<=k) w w2:=(Upd.of_below HB1.out _).trans (hu12.mono fun k hk=>V0);have HP2:=Hi hp2;have HN2:=Hi hN2;have HA2:=Hi hA2;have HE2:=Hi hE2;have HU2:=Hi hu2;rw [hw2];clear hw2 hu12 hp2 hN2 hA2 hE2 hu2 e0 e1 e2 e3 e4 e5 z0 z1 z2 z3 z4 z5 c1 c2 f1 f2 hs12;refine (q5R w2 w1.heap.size L HP2.out HGT.out).mono ?_;rintro e w3 (⟨k,a,sx,n,A,la,cA,B,lb,cB,x,r,rfl,hT,hR,hP,hG,hr,hU⟩ | ⟨a,er,rfl,hR,hU⟩);rotate_left
 ·exact V2p
 obtain ⟨t,r',rfl⟩:=hG.cons;have h2g:g+2 < w2.heap.size:=HE2.out.lt;have hN3:=HN2.out.upd hU (show ¬ g=w1.heap.size from V0);have hA3:=HA2.out.upd hU (show ¬ g+1=w1.heap.size from V0);have hE3:=HE2.out.upd hU (show ¬ g+2=w1.heap.size from V0);obtain ⟨⟨e0,e1,e2,e3,e4,e5⟩,z0,z1,z2,z3,z4,z5⟩:=Blk.c6 hN3;obtain ⟨w4,hw4⟩:∃ w4,put6 w3 g (.int .i64 (k:Int)) (.string ⟨sx.toArray⟩) (.int .u32 (n:Int)) (.int .i64 (a:Int)) (.slice A la cA) (.slice B lb cB)=w4:=⟨_,rfl⟩;have hu4:Upd (fun b=>b=g) w3 w4:=V3T;have hN4:Blk w4 g 26 #[.int .i64 (k:Int),.string ⟨sx.toArray⟩,.int .u32 (n:Int),.int .i64 (a:Int),.slice A la cA,.slice B lb cB]:=V4x;have hp4:PS w4 w1.heap.size (t :: r') 0:=PS.node hP hN3 hu4 V0;have HT4:=Hi (TIn.far hT hu4 fun b hb=>V0);have HU4:=Hi (show Upd (fun k=>g<=k) w w4 from (HU2.out.trans (hU.mono fun k hk=>V0)).trans (hu4.mono fun k hk=>V0));have HN4:=Hi hN4;have HA4:=Hi (hA3.upd hu4 V0);have HE4:=Hi (hE3.upd hu4 V0);have HR3:=Hi hR;have HP4:=Hi hp4;have HNX:=Hi (next w4 w1.heap.size 0 t r' hp4);simp only [put6] at hw4;have HW4:=Hi hw4;clear hw4 hN3 hA3 hE3 hu4 hN4 hp4 hT hR hP hG hU;go_wp2_with fail
 rw [HW4.out];refine HNX.out.mono ?_;rintro e w5 ⟨rfl,hb5⟩;clear e0 e1 e2 e3 e4 e5 z0 z1 z2 z3 z4 z5;have hN5:=HN4.out.below hb5 HN4.out.lt;have hA5:=HA4.out.below hb5 HA4.out.lt;have hE5:=HE4.out.below hb5 HE4.out.lt;have HT5:=Hi (TIn.far HT4.out (Upd.of_below hb5 fun _=>False) (fun _ h=>h.elim));have HU5:=Hi (HU4.out.trans (Upd.of_below hb5 _));by_cases hk:t.k = 0
 ·have hq:((t.k:Int) != 0)=false:=by simp;omega
  obtain ⟨⟨e0,e1,e2,e3,e4,e5⟩,z0,z1,z2,z3,z4,z5⟩:=Blk.c6 hN5;have c1:w5.cell? ⟨g+1,0,none⟩=some (.int .i64 (at0:Int)):=hA5.cell 0;have c2:w5.cell? ⟨g+2,0,none⟩=some (.int .i64 0):=hE5.cell 0;have f1:=hA5.frozen 0;have f2:=hE5.frozen 0;have hN6:=((Blk.put6 hN5 (.int .i64 (k:Int)) (.string ⟨sx.toArray⟩) (.int .u32 (n:Int)) (.int .i64 (a:Int)) (.slice A la cA) (.slice B lb cB)).far (p:=⟨g+1,0,none⟩) hg01 (.int .i64 0)).far (p:=⟨g+2,0,none⟩) hg02 (.int .i64 0);have hA6:Blk _ (g+1) 3 #[.int .i64 0]:=((q0e hA5 (Ne.symm hg01) (.int .i64 (k:Int)) (.string ⟨sx.toArray⟩) (.int .u32 (n:Int)) (.int .i64 (a:Int)) (.slice A la cA) (.slice B lb cB)).set 0 (.int .i64 0)).far (p:=⟨g+2,0,none⟩) hg12 (.int .i64 0);have hE6:Blk _ (g+2) 27 #[.int .i64 0]:=((q0e hE5 (Ne.symm hg02) (.int .i64 (k:Int)) (.string ⟨sx.toArray⟩) (.int .u32 (n:Int)) (.int .i64 (a:Int)) (.slice A la cA) (.slice B lb cB)).far (p:=⟨g+1,0,none⟩) (Ne.symm hg12) (.int .i64 0)).set 0 (.int .i64 0);have hu6:Upd (fun k=>g<=k/\k<=g+2) w5 _:=((q02 (X:=fun k=>g<=k/\k<=g+2) (Upd.refl _ w5) (fun _=>⟨Nat.le_refl g,V0⟩) (.int .i64 (k:Int)) (.string ⟨sx.toArray⟩) (.int .u32 (n:Int)) (.int .i64 (a:Int)) (.slice A la cA) (.slice B lb cB)).setCell (p:=⟨g+1,0,none⟩) (fun _=>⟨V0s,by show g+1<=g+2;omega⟩) (.int .i64 0)).setCell (p:=⟨g+2,0,none⟩) (fun _=>⟨V0t,Nat.le_refl _⟩) (.int .i64 0);have HEND:=Hi (show RdP ProgR s w (.returned (.tuple #[.agg #[.int .i64 (k:Int),.string ⟨sx.toArray⟩,.int .u32 (n:Int),.int .i64 (a:Int),.slice A la cA,.slice B lb cB],.int .i64 0,.int .i64 0])) _ from
   .inl ⟨k,a,sx,n,A,la,cA,B,lb,cB,x,t,r',rfl,HER.out,V29,hk,(TIn.far HT5.out hu6 fun b hb=>V0).up V0,(HU5.out.trans (hu6.mono fun k hk=>hk.1)).below (Nat.le_refl _) fun k hk=>V0⟩)
  exact V2u
 ·exact V2n
theorem q4q(s:ByteArray)(w:World)(h:(wordsL s.data.toList).er = 0) :
  Calls Tryz.prog 67 #[.string s,.func (.func 68) #[] #[]] w (RdP ExprR s w):=by
 obtain ⟨w0,hw0,hb0,hs0,hN,hA,hE⟩:=boxes w;have hwd:=pwords s w0;have hgt:=q2A h;unfold PWordsP at hwd;rw [h] at hwd;obtain ⟨L,hL⟩:∃ L,(wordsL s.data.toList).l=L:=⟨_,rfl⟩;obtain ⟨at0,ha⟩:∃ a,(wordsL s.data.toList).at_=a:=⟨_,rfl⟩;rw [hL,ha] at hwd;rw [hL] at hgt;have HWD:=Hi hwd;have HER:=Hi h;have HLL:=Hi hL;have HGT:=Hi hgt;have HB0:=Hi hb0;have HN:=Hi hN;have HA:=Hi hA;have HE:=Hi hE;have HW:=Hi hw0;obtain ⟨g,hg⟩:∃ g,w.heap.size=g:=⟨_,rfl⟩;rw [hg] at HN HA HE;have hmf:∀ (fn:Fn) (first cap:Array Value) (w:World),(Instr.makeFunc fn first cap).run Tryz.prog w = .ok (.func fn first cap) w:=fun _ _ _ _=>rfl
 clear hb0 hN hA hE hw0 h hwd ha hL hgt
 go_enter_defers Tryz.func67,Tryz.ntmps67
 go_wp2_with fail
 simp only [Nat.add_assoc,Nat.reduceAdd];rw [HW.out];refine HWD.out.mono ?_;rintro e w1 ⟨A,c,rfl,hL,hb1,hc1,hc2⟩;have hN1:=HN.out.below hb1 HN.out.lt;have hA1:=HA.out.below hb1 HA.out.lt;have hE1:=HE.out.below hb1 HE.out.lt;have hEl:=hE1.lt;obtain ⟨⟨e0,e1,e2,e3,e4,e5⟩,z0,z1,z2,z3,z4,z5⟩:=Blk.c6 hN1;have c1:w1.cell? ⟨g+1,0,none⟩=some (.int .i64 0):=hA1.cell 0;have c2:w1.cell? ⟨g+2,0,none⟩=some (.int .i64 0):=hE1.cell 0;have f1:=hA1.frozen 0;have f2:=hE1.frozen 0;have hb01:Below w.heap.size w w1:=HB0.out.trans (hb1.mono HB0.out.size);have hg01:g≠g+1:=V0;have hg02:g≠g+2:=V0;have hg12:g+1≠g+2:=V0;obtain ⟨t0,r0,hL0⟩:=HGT.out.cons;obtain ⟨b,o,rfl,hbl,hcc⟩:=hL.at_ (j:=0) (u:=.int .i64 (t0.k:Int)) V1b;have HLI:=Hi hL;have HN1:=Hi hN1;have HA1:=Hi hA1;have HE1:=Hi hE1;have HB1:=Hi hb01;have hcc1:=hcc 1 (.string ⟨t0.s.toArray⟩) V1b;clear hN1 hA1 hE1 hL hb01 hL0 hcc hb1;go_wp2_with fail
 obtain ⟨w2,hw2⟩:∃ w2,((w1.setCell ⟨g+1,0,none⟩ (.int .i64 (at0:Int))).setCell ⟨g+2,0,none⟩ (.int .i64 0)).alloc (.cells #[.slice (some ⟨b,o,none⟩) L.length c,.int .i64 0] 162)=w2:=⟨_,rfl⟩;have hs12:((w1.setCell ⟨g+1,0,none⟩ (.int .i64 (at0:Int))).setCell ⟨g+2,0,none⟩ (.int .i64 0)).heap.size=w1.heap.size:=V3;have hu12:Upd (fun k=>k=g+1\/k=g+2) w1 w2:=V39;have hN2:Blk w2 g 26 #[.int .i64 0,.string ⟨#[]⟩,.int .u32 0,.int .i64 0,.slice none 0 0,.slice none 0 0]:=HN1.out.upd hu12 V0;have hA2:Blk w2 (g+1) 3 #[.int .i64 (at0:Int)]:=V3R;have hE2:Blk w2 (g+2) 27 #[.int .i64 0]:=V3S;have hp2:PS w2 w1.heap.size L 0:=by
  exact V2S
 have hu2:Upd (fun k=>g<=k) w w2:=(Upd.of_below HB1.out _).trans (hu12.mono fun k hk=>V0);have HP2:=Hi hp2;have HN2:=Hi hN2;have HA2:=Hi hA2;have HE2:=Hi hE2;have HU2:=Hi hu2;rw [hw2];clear hw2 hu12 hp2 hN2 hA2 hE2 hu2 e0 e1 e2 e3 e4 e5 z0 z1 z2 z3 z4 z5 c1 c2 f1 f2 hs12;refine (cl_expr w2 w1.heap.size L HP2.out HGT.out).mono ?_;rintro e w3 (⟨k,a,sx,n,A,la,cA,B,lb,cB,x,r,rfl,hT,hR,hP,hG,hr,hU⟩ | ⟨a,er,rfl,hR,hU⟩);rotate_left
 ·exact V2p
 obtain ⟨t,r',rfl⟩:=hG.cons;have h2g:g+2 < w2.heap.size:=HE2.out.lt;have hN3:=HN2.out.upd hU (show ¬ g=w1.heap.size from V0);have hA3:=HA2.out.upd hU (show ¬ g+1=w1.heap.size from V0);have hE3:=HE2.out.upd hU (show ¬ g+2=w1.heap.size from V0);obtain ⟨⟨e0,e1,e2,e3,e4,e5⟩,z0,z1,z2,z3,z4,z5⟩:=Blk.c6 hN3;obtain ⟨w4,hw4⟩:∃ w4,put6 w3 g (.int .i64 (k:Int)) (.string ⟨sx.toArray⟩) (.int .u32 (n:Int)) (.int .i64 (a:Int)) (.slice A la cA) (.slice B lb cB)=w4:=⟨_,rfl⟩;have hu4:Upd (fun b=>b=g) w3 w4:=V3T;have hN4:Blk w4 g 26 #[.int .i64 (k:Int),.string ⟨sx.toArray⟩,.int .u32 (n:Int),.int .i64 (a:Int),.slice A la cA,.slice B lb cB]:=V4x;have hp4:PS w4 w1.heap.size (t :: r') 0:=PS.node hP hN3 hu4 V0;have HT4:=Hi (TIn.far hT hu4 fun b hb=>V0);have HU4:=Hi (show Upd (fun k=>g<=k) w w4 from (HU2.out.trans (hU.mono fun k hk=>V0)).trans (hu4.mono fun k hk=>V0));have HN4:=Hi hN4;have HA4:=Hi (hA3.upd hu4 V0);have HE4:=Hi (hE3.upd hu4 V0);have HR3:=Hi hR;have HP4:=Hi hp4;have HNX:=Hi (next w4 w1.heap.size 0 t r' hp4);simp only [put6] at hw4;have HW4:=Hi hw4;clear hw4 hN3 hA3 hE3 hu4 hN4 hp4 hT hR hP hG hU;go_wp2_with fail
 rw [HW4.out];refine HNX.out.mono ?_;rintro e w5 ⟨rfl,hb5⟩;clear e0 e1 e2 e3 e4 e5 z0 z1 z2 z3 z4 z5;have hN5:=HN4.out.below hb5 HN4.out.lt;have hA5:=HA4.out.below hb5 HA4.out.lt;have hE5:=HE4.out.below hb5 HE4.out.lt;have HT5:=Hi (TIn.far HT4.out (Upd.of_below hb5 fun _=>False) (fun _ h=>h.elim));have HU5:=Hi (HU4.out.trans (Upd.of_below hb5 _));by_cases hk:t.k = 0
 ·have hq:((t.k:Int) != 0)=false:=by simp;omega
  obtain ⟨⟨e0,e1,e2,e3,e4,e5⟩,z0,z1,z2,z3,z4,z5⟩:=Blk.c6 hN5;have c1:w5.cell? ⟨g+1,0,none⟩=some (.int .i64 (at0:Int)):=hA5.cell 0;have c2:w5.cell? ⟨g+2,0,none⟩=some (.int .i64 0):=hE5.cell 0;have f1:=hA5.frozen 0;have f2:=hE5.frozen 0;have hN6:=((Blk.put6 hN5 (.int .i64 (k:Int)) (.string ⟨sx.toArray⟩) (.int .u32 (n:Int)) (.int .i64 (a:Int)) (.slice A la cA) (.slice B lb cB)).far (p:=⟨g+1,0,none⟩) hg01 (.int .i64 0)).far (p:=⟨g+2,0,none⟩) hg02 (.int .i64 0);have hA6:Blk _ (g+1) 3 #[.int .i64 0]:=((q0e hA5 (Ne.symm hg01) (.int .i64 (k:Int)) (.string ⟨sx.toArray⟩) (.int .u32 (n:Int)) (.int .i64 (a:Int)) (.slice A la cA) (.slice B lb cB)).set 0 (.int .i64 0)).far (p:=⟨g+2,0,none⟩) hg12 (.int .i64 0);have hE6:Blk _ (g+2) 27 #[.int .i64 0]:=((q0e hE5 (Ne.symm hg02) (.int .i64 (k:Int)) (.string ⟨sx.toArray⟩) (.int .u32 (n:Int)) (.int .i64 (a:Int)) (.slice A la cA) (.slice B lb cB)).far (p:=⟨g+1,0,none⟩) (Ne.symm hg12) (.int .i64 0)).set 0 (.int .i64 0);have hu6:Upd (fun k=>g<=k/\k<=g+2) w5 _:=((q02 (X:=fun k=>g<=k/\k<=g+2) (Upd.refl _ w5) (fun _=>⟨Nat.le_refl g,V0⟩) (.int .i64 (k:Int)) (.string ⟨sx.toArray⟩) (.int .u32 (n:Int)) (.int .i64 (a:Int)) (.slice A la cA) (.slice B lb cB)).setCell (p:=⟨g+1,0,none⟩) (fun _=>⟨V0s,by show g+1<=g+2;omega⟩) (.int .i64 0)).setCell (p:=⟨g+2,0,none⟩) (fun _=>⟨V0t,Nat.le_refl _⟩) (.int .i64 0);have HEND:=Hi (show RdP ExprR s w (.returned (.tuple #[.agg #[.int .i64 (k:Int),.string ⟨sx.toArray⟩,.int .u32 (n:Int),.int .i64 (a:Int),.slice A la cA,.slice B lb cB],.int .i64 0,.int .i64 0])) _ from
   .inl ⟨k,a,sx,n,A,la,cA,B,lb,cB,x,t,r',rfl,HER.out,V29,hk,(TIn.far HT5.out hu6 fun b hb=>V0).up V0,(HU5.out.trans (hu6.mono fun k hk=>hk.1)).below (Nat.le_refl _) fun k hk=>V0⟩)
  exact V2u
 ·exact V2n
end
section
attribute [local go_sem] fTk0 fTk1 fTk2
theorem q1l{fn:Func}{p u v:Tmp}(h:fn.results = #[.cell p 26,.tmp u,.tmp v])(tmps:Array Value)(W:World){g:Nat}{t:TypeId}{cs:Array Value}(hp:tmps.getD p undef = .pointer (some ⟨g,0,none⟩))(hg:Blk W g t cs)(hs:some 6=some cs.size){x y:Value}(hx:tmps.getD u undef=x)(hy:tmps.getD v undef=y) :
  (results fn tmps).run Tryz.prog W = .ok (.tuple #[.agg cs,x,y]) W:=by
 subst hx;subst hy;have hp':tmps[p]?.getD undef = .pointer (some ⟨g,0,none⟩):=VF;simp [results,h,hp',asAddr,run_loadVar_row W g t 26 cs (0,0) _ hg Tryz.underlying26 rfl (szNd.trans hs)]
theorem q73(s:ByteArray)(w:World):Calls Tryz.prog 63 #[.string s] w (RdP ProgR s w):=by
 have hrd:∀ w,Calls Tryz.prog 67 #[.string s,.func (.func 96) #[] #[]] w (RdP ProgR s w):=fun w=>by
  by_cases h:(wordsL s.data.toList).er = 0
  ·exact q2T s w h
  ·exact q2q s w h
 obtain ⟨w0,hw0,hb0,hB⟩:=alK w #[.int .i64 0,.string ⟨#[]⟩,.int .u32 0,.int .i64 0,.slice none 0 0,.slice none 0 0] 26;have HR:=Hi (hrd w0);have HB0:=Hi hb0;have HB:=Hi hB;have HW:=Hi hw0;clear hb0 hw0 hB hrd;go_enter Tryz.func63,Tryz.ntmps63;go_wp2_with fail
 rw [HW.out];refine HR.out.mono ?_;rintro e w1 (⟨k,a,sx,n,A,la,cA,B,lb,cB,x,t,r,rfl,h1,h2,h3,hT,hb⟩ | ⟨a,er,rfl,hbad,hb⟩)
 ·have hX:=HB.out.below hb HB.out.lt;have hlt:=hX.lt;have hlb:=HB.out.lt;obtain ⟨⟨e0,e1,e2,e3,e4,e5⟩,z0,z1,z2,z3,z4,z5⟩:=Blk.c6 hX;have hN:=Blk.put6 hX (.int .i64 (k:Int)) (.string ⟨sx.toArray⟩) (.int .u32 (n:Int)) (.int .i64 (a:Int)) (.slice A la cA) (.slice B lb cB);have hu:Upd (fun b=>b=w.heap.size) w1 _:=q02 (X:=fun b=>b=w.heap.size) (Upd.refl _ w1) (fun _=>rfl) (.int .i64 (k:Int)) (.string ⟨sx.toArray⟩) (.int .u32 (n:Int)) (.int .i64 (a:Int)) (.slice A la cA) (.slice B lb cB);have HEND:=Hi (show RdP ProgR s w (.returned (.tuple #[.agg #[.int .i64 (k:Int),.string ⟨sx.toArray⟩,.int .u32 (n:Int),.int .i64 (a:Int),.slice A la cA,.slice B lb cB],.int .i64 0,.int .i64 0])) _ from
   .inl ⟨k,a,sx,n,A,la,cA,B,lb,cB,x,t,r,rfl,h1,h2,h3,(TIn.far hT hu fun b hb=>V0).up V0,((Upd.of_below (HB0.out.trans (hb.mono HB0.out.size)) (fun b=>b=w.heap.size)).trans hu).below (Nat.le_refl _) fun k hk=>V0⟩)
  exact V2J
 ·have hX:=HB.out.below hb HB.out.lt;obtain ⟨⟨e0,e1,e2,e3,e4,e5⟩,z0,z1,z2,z3,z4,z5⟩:=Blk.c6 hX;have hN:=Blk.put6 hX (.int .i64 0) (.string ⟨#[]⟩) (.int .u32 0) (.int .i64 0) (.slice none 0 0) (.slice none 0 0);have hu:Upd (fun b=>b=w.heap.size) w1 _:=q02 (X:=fun b=>b=w.heap.size) (Upd.refl _ w1) (fun _=>rfl) (.int .i64 0) (.string ⟨#[]⟩) (.int .u32 0) (.int .i64 0) (.slice none 0 0) (.slice none 0 0);have HEND:=Hi (show RdP ProgR s w (.returned (.tuple #[.agg #[.int .i64 0,.string ⟨#[]⟩,.int .u32 0,.int .i64 0,.slice none 0 0,.slice none 0 0],.int .i64 (a:Int),.int .i64 (er:Int)])) _ from .inr ⟨a,er,rfl,hbad,((Upd.of_below (HB0.out.trans (hb.mono HB0.out.size)) (fun b=>b=w.heap.size)).trans hu).below (Nat.le_refl _) fun k hk=>V0⟩);exact V2L
theorem p_expr(s:ByteArray)(w:World):Calls Tryz.prog 32 #[.string s] w (RdP ExprR s w):=by
 have hrd:∀ w,Calls Tryz.prog 67 #[.string s,.func (.func 68) #[] #[]] w (RdP ExprR s w):=fun w=>by
  by_cases h:(wordsL s.data.toList).er = 0
  ·exact q4q s w h
  ·exact q3C s w h
 obtain ⟨w0,hw0,hb0,hB⟩:=alK w #[.int .i64 0,.string ⟨#[]⟩,.int .u32 0,.int .i64 0,.slice none 0 0,.slice none 0 0] 26;have HR:=Hi (hrd w0);have HB0:=Hi hb0;have HB:=Hi hB;have HW:=Hi hw0;clear hb0 hw0 hB hrd;go_enter Tryz.func32,Tryz.ntmps32;go_wp2_with fail
 rw [HW.out];refine HR.out.mono ?_;rintro e w1 (⟨k,a,sx,n,A,la,cA,B,lb,cB,x,t,r,rfl,h1,h2,h3,hT,hb⟩ | ⟨a,er,rfl,hbad,hb⟩)
 ·have hX:=HB.out.below hb HB.out.lt;have hlt:=hX.lt;have hlb:=HB.out.lt;obtain ⟨⟨e0,e1,e2,e3,e4,e5⟩,z0,z1,z2,z3,z4,z5⟩:=Blk.c6 hX;have hN:=Blk.put6 hX (.int .i64 (k:Int)) (.string ⟨sx.toArray⟩) (.int .u32 (n:Int)) (.int .i64 (a:Int)) (.slice A la cA) (.slice B lb cB);have hu:Upd (fun b=>b=w.heap.size) w1 _:=q02 (X:=fun b=>b=w.heap.size) (Upd.refl _ w1) (fun _=>rfl) (.int .i64 (k:Int)) (.string ⟨sx.toArray⟩) (.int .u32 (n:Int)) (.int .i64 (a:Int)) (.slice A la cA) (.slice B lb cB);have HEND:=Hi (show RdP ExprR s w (.returned (.tuple #[.agg #[.int .i64 (k:Int),.string ⟨sx.toArray⟩,.int .u32 (n:Int),.int .i64 (a:Int),.slice A la cA,.slice B lb cB],.int .i64 0,.int .i64 0])) _ from
   .inl ⟨k,a,sx,n,A,la,cA,B,lb,cB,x,t,r,rfl,h1,h2,h3,(TIn.far hT hu fun b hb=>V0).up V0,((Upd.of_below (HB0.out.trans (hb.mono HB0.out.size)) (fun b=>b=w.heap.size)).trans hu).below (Nat.le_refl _) fun k hk=>V0⟩)
  exact V2J
 ·have hX:=HB.out.below hb HB.out.lt;obtain ⟨⟨e0,e1,e2,e3,e4,e5⟩,z0,z1,z2,z3,z4,z5⟩:=Blk.c6 hX;have hN:=Blk.put6 hX (.int .i64 0) (.string ⟨#[]⟩) (.int .u32 0) (.int .i64 0) (.slice none 0 0) (.slice none 0 0);have hu:Upd (fun b=>b=w.heap.size) w1 _:=q02 (X:=fun b=>b=w.heap.size) (Upd.refl _ w1) (fun _=>rfl) (.int .i64 0) (.string ⟨#[]⟩) (.int .u32 0) (.int .i64 0) (.slice none 0 0) (.slice none 0 0);have HEND:=Hi (show RdP ExprR s w (.returned (.tuple #[.agg #[.int .i64 0,.string ⟨#[]⟩,.int .u32 0,.int .i64 0,.slice none 0 0,.slice none 0 0],.int .i64 (a:Int),.int .i64 (er:Int)])) _ from .inr ⟨a,er,rfl,hbad,((Upd.of_below (HB0.out.trans (hb.mono HB0.out.size)) (fun b=>b=w.heap.size)).trans hu).below (Nat.le_refl _) fun k hk=>V0⟩);exact V2L
end
end Pa
namespace Nm
open Go Lx Pa Sh
theorem q74(base:Nat):∀ (l:List UInt8) (n m:Nat),n<=4294967296->Num.nrun base l n=some m->m<=4294967296
 | [],n,m,h,e=>by
  unfold Num.nrun at e;cases e;exact h
 | c :: l,n,m,h,e=>by
  unfold Num.nrun at e;split at e
  ·exact q74 base l _ m (Nat.min_le_right ..) e
  ·cases e
theorem q4W(b:Bs):(numV b).1 < 4294967296:=by
 unfold numV Num.numR;split
 ·decide
 ·split
  ·decide
  ·next h=>
   have:=q74 _ _ _ _ V2 h;split
   ·decide
   ·simp only;omega
def pw:List Bs->Nat
 | []=>0
 | p :: ps=>p.length+1+pw ps
mutual
def wt:Tr->Nat
 | .mk _ _ s _ ps l=>1+s.length+pw ps+wts l
def wts:List Tr->Nat
 | []=>0
 | x :: l=>wt x+wts l
end
def tw:List Tk->Nat
 | []=>0
 | t :: l=>t.s.length+1+tw l
theorem q75:∀ (a b:List Bs),pw (a ++ b)=pw a+pw b
 | [],b=>by simp [pw]
 | p :: a,b=>by
  show p.length+1+pw (a ++ b)=p.length+1+pw a+pw b;rw [q75 a b];omega
theorem q2U:∀ (a b:List Tr),wts (a ++ b)=wts a+wts b
 | [],b=>by simp [wts]
 | x :: a,b=>by
  show wt x+wts (a ++ b)=wt x+wts a+wts b;rw [q2U a b];omega
theorem wt_put(x:Tr)(a:Nat):wt (x.put a)=wt x:=by cases x;rfl
theorem q76(a:Nat):∀ l:List Tr,wts (l.map (·.put a))=wts l
 | []=>rfl
 | x :: l=>by
  show wt (x.put a)+wts (l.map _)=wt x+wts l;rw [wt_put,q76 a l]
def baseN:NT->Nat
 | .more _ x=>wt x
 | .args l=>wts l
 | .fin _ _ s ps=>1+s.length+pw ps
 | .inners l=>wts l
 | .stmts l=>wts l
 | _=>0
def sglN:NT->Prop
 | .lev _=>True
 | .more _ _=>True
 | _=>False
def Ct(p:Prop)(b:Nat):OO->Prop
 | some (.ok xs r)=>wts xs+tw r<=b/\(p->∃ x l,xs=x :: l)
 | _=>True
section
variable {p p' : Prop} {b b' : Nat}
theorem q1m(l:List Tk)(e:Nat):Ct p b (wrong l e):=trivial
theorem q0V{c:Prop}[Decidable c]{o q:OO}(h1:c->Ct p b o)(h2:¬ c->Ct p b q):Ct p b (if c then o else q):=by
 by_cases h:c
 ·rw [if_pos h];exact h1 h
 ·rw [if_neg h];exact h2 h
theorem q1d{o:OO}{f:List Tr->List Tk->OO}(h:Ct p b o)(hf:∀ xs r,wts xs+tw r<=b->(p->∃ x l,xs=x :: l)->Ct p' b' (f xs r)):Ct p' b' (bnd o f):=by
 rcases o with _ | ⟨xs,r⟩ | ⟨a,e⟩
 ·trivial
 ·exact hf xs r h.1 h.2
 ·trivial
theorem q4r{o:OO}(h:Ct p b o)(hb:b<=b')(hp:p'->p):Ct p' b' o:=by
 rcases o with _ | ⟨xs,r⟩ | ⟨a,e⟩
 ·trivial
 ·exact ⟨Nat.le_trans h.1 hb,fun h'=>h.2 (hp h')⟩
 ·trivial
theorem ct_ok{xs:List Tr}{r:List Tk}(h:wts xs+tw r<=b)(hp:p->∃ x l,xs=x :: l):Ct p b (some (.ok xs r)):=⟨h,hp⟩
theorem q0D{s:Bs}{l:List Tk}{f:List Tk->OO}(hf:∀ r,tw r+1<=tw l->Ct p b (f r)):Ct p b (must s l f):=by
 cases l with
 | nil=>trivial
 | cons t r=>exact q0V (fun _=>hf r (by show tw r+1<=t.s.length+1+tw r;omega)) fun _=>q1m _ _
theorem q2k{l:List Tk}{f:Bs->List Tk->OO}(hf:∀ s r,s.length+1+tw r=tw l->Ct p b (f s r)):Ct p b (nameK l f):=by
 cases l with
 | nil=>trivial
 | cons t r=>exact q0V (fun hk=>hf t.s r rfl) fun _=>q1m _ _
theorem q3D{f:List Bs->List Tk->OO}{c:Nat}(hf:∀ ps r,pw ps+tw r<=c->Ct p b (f ps r)):∀ (ps:List Bs) (l:List Tk),pw ps+tw l<=c->Ct p b (namesK ps l f)
 | _,[],_=>trivial
 | ps,[t],h=>by
  unfold namesK;refine q0V (fun hk=>hf _ _ ?_) fun _=>q1m _ _
  rw [q75];have:tw [t]=t.s.length+1+tw []:=rfl;show pw ps+(t.s.length+1+0)+tw []<=c;omega
 | ps,t :: u :: r,h=>by
  unfold namesK;have e:tw (t :: u :: r)=t.s.length+1+(u.s.length+1+tw r):=rfl;have e2:pw (ps ++ [t.s])=pw ps+(t.s.length+1+0):=q75 _ _;have e3:tw (u :: r)=u.s.length+1+tw r:=rfl;refine q0V (fun hk=>q0V (fun _=>q3D hf _ r V0) fun _=>hf _ _ V0) fun _=>q1m _ _
end
theorem q0W(x:Tr):wts [x]=wt x:=by show wt x+0=_;omega
theorem q0X(t:Tk)(l:List Tk):tw (t :: l)=t.s.length+1+tw l:=rfl
theorem q2B(x:Tr)(l:List Tr):wts (x :: l)=wt x+wts l:=rfl
theorem q2l(k a:Nat)(s:Bs)(n:Nat)(ps:List Bs)(l:List Tr):wt (.mk k a s n ps l) = 1+s.length+pw ps+wts l:=rfl
theorem q1y:pw [] = 0:=rfl
theorem q3E:wts [] = 0:=rfl
theorem q4X{num:Bs->Nat×Nat}:∀ (f:Nat) (nt:NT) (d:Nat) (l:List Tk),Ct (sglN nt) (baseN nt+tw l) (pF num f nt d l):=by
 intro f
 induction f with
 | zero=>intros;trivial
 | succ f ih=>
  intro nt d l;cases nt with
  | lev n=>
   unfold pF;refine q0V (fun _=>q1d (ih (.lev (n+1)) _ _) fun xs r hx hs=>?_) fun _=>?_
   ·obtain ⟨x,m,rfl⟩:=hs trivial;refine q4r (ih (.more n x) _ _) ?_ (fun h=>h);simp only [baseN,q2B] at hx ⊢;omega
   cases l with
   | nil=>trivial
   | cons t r=>
   refine q0V (fun _=>q1m _ _) fun _=>q0V (fun hs=>?_) fun _=>q0V (fun hk=>?_) fun _=>q0V (fun hs=>?_) fun _=>q2k fun s r hs=>?_
   ·refine q1d (ih (.lev 5) _ _) fun xs r' hx _=>⟨?_,fun _=>⟨_,_,rfl⟩⟩
    simp only [baseN] at hx;simp only [baseN,q0W,q2l,q0X,q1y];omega
   ·refine q0V (fun _=>⟨?_,fun _=>⟨_,_,rfl⟩⟩) fun _=>q1m _ _
    simp only [baseN,q0W,q2l,q0X,q1y,q3E,List.length_nil];omega
   ·refine q1d (ih (.lev 0) _ _) fun xs r' hx hs=>q0D fun r2 hr2=>⟨?_,fun _=>?_⟩
    ·rw [q76];simp only [baseN] at hx;simp only [baseN,q0X];omega
    ·obtain ⟨x,m,rfl⟩:=hs trivial;exact ⟨_,_,rfl⟩
   ·cases r with
    | nil=>
     refine ⟨?_,fun _=>⟨_,_,rfl⟩⟩;simp only [baseN,q0W,q2l,q1y,q3E];omega
    | cons u r'=>
     refine q0V (fun hu=>?_) fun _=>⟨?_,fun _=>⟨_,_,rfl⟩⟩
     ·refine q1d (ih (.lev 0) _ _) fun xs r2 hx _=>q1d (ih (.args xs) _ _) fun ys r3 hy _=>q0D fun r4 hr4=>⟨?_,fun _=>⟨_,_,rfl⟩⟩
      simp only [baseN] at hx hy;simp only [q0X] at hs;simp only [baseN,q0W,q2l,q1y,q0X];omega
     ·simp only [baseN,q0W,q2l,q1y,q3E];omega
  | more n x=>
   unfold pF;cases l with
   | nil=>exact ⟨by simp only [baseN,q0W];omega,fun _=>⟨_,_,rfl⟩⟩
   | cons t r=>
    refine q0V (fun hs=>q1d (ih (.lev (n+1)) _ _) fun ys r' hy _=>?_) fun _=>⟨by simp only [baseN,q0W];omega,fun _=>⟨_,_,rfl⟩⟩
    refine q4r (ih (.more n (.mk (if n = 3 then 4 else 3) x.place t.s 0 [] (x :: ys))) d r') ?_ (fun h=>h);simp only [baseN] at hy;simp only [baseN,q2l,q2B,q1y,q0X];omega
  | args xs=>
   unfold pF;cases l with
   | nil=>exact ⟨V0u,fun h=>h.elim⟩
   | cons t r=>
    refine q0V (fun hs=>q1d (ih (.lev 0) _ _) fun ys r' hy _=>?_) fun _=>⟨V0u,fun h=>h.elim⟩
    refine q4r (ih (.args (xs ++ ys)) d r') ?_ (fun h=>h);simp only [baseN] at hy;simp only [baseN,q2U,q0X];omega
  | fin k a s ps=>
   unfold pF;refine q1d (ih (.lev 0) _ _) fun xs r hx _=>q0D fun r' hr'=>⟨?_,fun h=>h.elim⟩
   simp only [baseN] at hx;simp only [baseN,q0W,q2l];omega
  | inner=>
   unfold pF;cases l with
   | nil=>trivial
   | cons t r=>
    refine q0V (fun _=>q1m _ _) fun _=>q0V (fun hs=>?_) fun _=>q2k fun s r hs=>q0D fun r2 hr2=>?_
    ·refine q2k fun s r1 hs=>q0D fun r2 h2=>q1d (ih (.lev 0) _ _) fun xs r3 hx _=>q0D fun r4 h4=>q1d (ih (.lev 0) _ _) fun ys r5 hy _=>q0D fun r6 h6=>q1d (ih (.inners (xs ++ ys)) _ _) fun zs r7 hz _=>⟨?_,fun h=>h.elim⟩
     simp only [baseN,q2U] at hx hy hz;simp only [baseN,q0W,q2l,q1y,q0X];omega
    ·refine q4r (ih (.fin 10 t.at_ s []) d r2) ?_ (fun h=>h);simp only [baseN,q1y];omega
  | inners zs=>
   unfold pF;cases l with
   | nil=>trivial
   | cons t r=>
    refine q0V (fun _=>⟨?_,fun h=>h.elim⟩) fun _=>q1d (ih .inner _ _) fun xs r' hx _=>?_
    ·simp only [baseN,q0X];omega
    ·refine q4r (ih (.inners (zs ++ xs)) d r') ?_ (fun h=>h);simp only [baseN] at hx;simp only [baseN,q2U];omega
  | stmt=>
   unfold pF;cases l with
   | nil=>trivial
   | cons t r=>
    have fin:∀ (k:Nat) (s:Bs) (ps:List Bs) (r2:List Tk),1+s.length+pw ps+tw r2<=tw (t :: r)->Ct (sglN .stmt) (baseN .stmt+tw (t :: r)) (pF num f (.fin k t.at_ s ps) d r2):=fun k s ps r2 h=>q4r (ih (.fin k t.at_ s ps) d r2) V0u (fun h=>h)
    have e0:=q0X t r;refine q0V (fun _=>?_) fun _=>q0V (fun _=>?_) fun _=>q0V (fun _=>?_) fun _=>q0V (fun _=>?_) fun _=>q0V (fun _=>?_) fun _=>?_
    ·exact V2Z
    ·exact V2Z
    ·exact q2k fun s r1 h1=>q0D fun r2 h2=>fin 8 s [] r2 V0W
    ·exact q2k fun s r1 h1=>q0D fun r2 h2=>fin 9 s [] r2 V0W
    ·exact q2k fun s r1 h1=>q0D fun r2 h2=>q3D (c:=tw r2) (fun ps r3 h3=>q0D fun r4 h4=>q0D fun r5 h5=>fin 12 s ps r5 V0) [] r2 V0W
    ·exact q4r (ih .inner 0 (t :: r)) V0u (fun h=>h)
  | stmts xs=>
   unfold pF;cases l with
   | nil=>trivial
   | cons t r=>
    refine q0V (fun _=>⟨V0u,fun h=>h.elim⟩) fun _=>q1d (ih .stmt _ _) fun ys r' hy _=>?_
    refine q4r (ih (.stmts (xs ++ ys)) d r') ?_ (fun h=>h);simp only [baseN] at hy;simp only [baseN,q2U];omega
theorem tw_le(b:Nat):∀ (l:List Tk),(∀ t∈l,t.s.length<=b)->tw l<=l.length * (b+1)
 | [],_=>by simp [tw]
 | t :: l,h=>by
  have h1:=tw_le b l fun u hu=>h u (by simp [hu])
  have h2:=h t V3;rw [q0X,List.length_cons,Nat.succ_mul];omega
theorem q3F{s:Bs}(h:(wordsL s).er = 0):tw (wordsL s).l<=80004000:=by
 obtain ⟨_,h2,h3⟩:=q2A h;have h1:=tw_le 20000 (wordsL s).l fun t ht=>(h2 t ht).2
 have:(wordsL s).l.length * 20001<=4000 * 20001:=Nat.mul_le_mul_right _ h3;omega
theorem q8T:∀ {ps:List Bs} {p:Bs},p∈ps->p.length<=pw ps
 | q :: ps,p,h=>by
  show _<=q.length+1+pw ps;rcases List.mem_cons.1 h with rfl | h
  ·omega
  ·have:=q8T h;omega
theorem q8U:∀ ps:List Bs,ps.length<=pw ps
 | []=>Nat.le_refl _
 | p :: ps=>by
  have:=q8U ps;show ps.length+1<=p.length+1+pw ps;omega
mutual
theorem q4Y:∀ (x:Tr),wt x<=maxLen->lenz (embz x)
 | .mk k a s n ps l,h=>by
  rw [q2l] at h;unfold embz lenz;exact ⟨V0,fun p hp=>by have:=q8T hp;omega,q5z l V0⟩
theorem q5z:∀ (l:List Tr),wts l<=maxLen->lenzs (embs l)
 | [],_=>by unfold embs lenzs;trivial
 | x :: l,h=>by
  rw [q2B] at h;unfold embs lenzs;exact ⟨q4Y x V0,q5z l V0⟩
end
mutual
theorem q8V:∀ (x:Tr),nbz (embz x)<=wt x
 | .mk k a s n ps l=>by
  rw [q2l];have:=q77 l;have:=q8U ps;unfold embz nbz;omega
theorem q77:∀ (l:List Tr),nbzs (embs l)<=wts l
 | []=>by unfold embs nbzs;exact Nat.zero_le _
 | x :: l=>by
  rw [q2B];have:=q8V x;have:=q77 l;unfold embs nbzs;omega
end
theorem q8W{s:Bs}{x:Tr}{t:Tk}{r:List Tk}(he:(wordsL s).er = 0)(h:ProgR (wordsL s).l (.ok [x] (t :: r))):lenz (embz x)/\nbz (embz x)<=1099511627776/\okPs 0 (lz (embz x)):=by
 obtain ⟨zs,e1,h1,_⟩:=h;simp only [List.cons.injEq,and_true] at e1;subst e1;obtain ⟨f,hf⟩:=h1.at_;have hm:=q4X (num:=numV) f (.stmts []) 0 (wordsL s).l;rw [hf] at hm;have hw:=q3F he;have hm1:=hm.1;have hwz:wts zs<=80004000:=by
  have:baseN (.stmts []) = 0:=rfl;omega
 refine ⟨q4Y _ ?_,?_,?_⟩
 ·rw [q2l];simp only [q1y,List.length_nil];unfold maxLen;omega
 ·exact V3v
 ·have hg:=q4H (num:=numV) (Q:=fun _=>True) q4W f (.stmts []) 0 (wordsL s).l trivial (fun _ _ _=>trivial);rw [hf] at hg;obtain ⟨ys,e,hy⟩:=hg.1;have:zs=ys:=V0A;subst this;show okPs 0 (embs zs);exact q6J hy
theorem q3G{l:List Tk}{x x':Tr}{t t':Tk}{r r':List Tk}(h:ProgR l (.ok [x] (t :: r)))(h':ProgR l (.ok [x'] (t' :: r'))):x=x':=by
 obtain ⟨zs,e1,h1,_⟩:=h;obtain ⟨zs',e2,h2,_⟩:=h';have:=Rd.one h1 h2;cases this;simp only [List.cons.injEq,and_true] at e1 e2;rw [e1,e2]
theorem q4Z{l:Wd}{x:Tr}{t:Tk}{r:List Tk}{a er:Nat}(he:l.er = 0)(h:ProgR l.l (.ok [x] (t :: r)))(h':BadR ProgR l a er):False:=by
 obtain ⟨zs,e1,h1,t1,r1,e2,hk⟩:=h;rcases h' with ⟨h,_⟩ | ⟨_,h | ⟨xs,t',r',h,hk',_⟩⟩
 ·exact h he
 ·have:=Rd.one (show Rd numV (.stmts []) 0 l.l (.bad a er) from h) h1;cases this
 ·obtain ⟨zs',e3,h3,_⟩:=h;have:=Rd.one h1 h3;simp only [Out.ok.injEq] at this;rw [e2] at this;cases this.2;exact hk' hk
theorem prog_er{s:Bs}{a er:Nat}(h:BadR ProgR (wordsL s) a er):er≠0:=by
 rcases h with ⟨h,_,rfl⟩ | ⟨h0,h | ⟨_,_,_,_,_,_,rfl⟩⟩
 ·exact h
 ·obtain ⟨f,hf⟩:=(show Rd numV (.stmts []) 0 (wordsL s).l (.bad a er) from h).at_;have:=(tells h0 hf).2;omega
 ·decide
end Nm
end Go.Proofs.YtcgibpdjfgjldaaGreatDoor
