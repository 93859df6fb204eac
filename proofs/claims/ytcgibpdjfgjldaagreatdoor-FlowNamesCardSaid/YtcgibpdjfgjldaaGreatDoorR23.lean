/- DERIVED. PaPg, PaDf. By an AI agent. -/
import Derived.Test.YtcgibpdjfgjldaaGreatDoorR22
import Derived.Tactics
import Derived.Defers
import Derived.Recover
set_option maxRecDepth 100000
set_option maxHeartbeats 8000000
set_option linter.unusedVariables false
set_option linter.unusedSimpArgs false
open Go Go.ChangeShapes Go.WideShapes Go.ChangeAt Go.RowKit
namespace Go.Proofs.YtcgibpdjfgjldaaGreatDoor
namespace Pa
open Lx Args
section
attribute [local go_sem] bH bI bJ
theorem AY.none(e:TypeId){lo:Nat}(w1:World)(hlo:lo<=w1.heap.size):AY e lo (w1.alloc (.cells #[] e)) w1.heap.size 0 []:=
 ⟨[],q11 w1 hlo e 6 0 [] rfl V2,V0C⟩
def hdA:List Tk->Nat
 | []=>0
 | t :: _=>t.at_
def Al(l:List Tk):Out->Prop
 | .ok xs r=>∃ zs,xs=[.mk 13 (hdA l) [] 0 [] zs]/\Rd ag (.stmts []) 0 l (.ok zs r)/\∃ e r',r=e :: r'/\e.k = 0
 | .bad a e=>Rd ag (.stmts []) 0 l (.bad a e)
abbrev tX:Tk:=⟨0,[],0⟩
structure PgI(w:World)(bp:Nat)(l:List Tk)(zs:List Tr)(l':List Tk)(g c:Nat)(W:World):Prop where
 rd:∀ o,Rd ag (.stmts zs) 0 l' o->Rd ag (.stmts []) 0 l o
 ps:PS W bp l' 0
 gt:Gt l'
 lt:l'.length<=l.length
 arr:AY 26 (w.heap.size+1) W g c zs
 few:zs.length+l'.length<=4000
 ub:UB bp w W
 res:Aa W w.heap.size 26 #[.int .i64 0,.string ⟨#[]⟩,.int .u32 0,.int .i64 0,.slice none 0 0,.slice none 0 0]
theorem program(w:World)(bp:Nat)(l:List Tk)(hp:PS w bp l 0)(hg:Gt l) :
  Calls Tryz.prog 97 #[.pointer (some ⟨bp,0,none⟩)] w (AB w bp 0 (tX :: l) (Al l)):=by
 have hlt:=hp.lt;have hfw:=hg.few;obtain ⟨i0,hi,hz⟩:=Option.map_eq_some_iff.1 infoNd;have hz0:=congrArg (·.1) hz;have hz1:=congrArg (·.2.1) hz;have hz2:=congrArg (·.2.2) hz;have HI:=Hi hi;have HZ0:=Hi hz0;have HZ1:=Hi hz1;have HZ2:=Hi hz2;clear hi hz hz0 hz1 hz2;obtain ⟨t,r,rfl⟩:=hg.cons;obtain ⟨w0,hw0,hb0,hB⟩:=aS w #[.int .i64 0,.string ⟨#[]⟩,.int .u32 0,.int .i64 0,.slice none 0 0,.slice none 0 0] 26;have HN:=Hi (next w0 bp 0 t r (hp.below hb0));have Bb:=Hi (hp.below hb0);have HG:=Hi hg;have Bc:=Hi (q01 (bp:=bp) hb0);have HB:=Hi hB;have HW:=Hi hw0;have hlb:=hB.lt;clear hb0 hp hw0 hB hg;go_enter Tryz.func97,Tryz.ntmps97;go_wp2_with fail
 rw [HW.out];refine HN.out.mono ?_;rintro e w1 ⟨rfl,hb1⟩;have h01:=hb1.size;have HJ:Hid (PgI w bp (t :: r) [] (t :: r) w1.heap.size 0 (w1.alloc (.cells #[] 26))):=Hi ⟨fun o h=>h,(Bb.out.below hb1).below ((Below.refl _ _).alloc (Nat.le_refl _) _),HG.out,Nat.le_refl _,AY.none 26 w1 V0,by simpa using hfw,(Bc.out.trans (q01 hb1)).alloc _,(HB.out.below hb1 HB.out.lt).alloc _⟩;clear hb1 HN Bb;go_wp2_with fail
 go_loopw [4] (fun vl wr=>∃ zs l' g c,vl = .slice (some ⟨g,0,none⟩) zs.length c/\Hid (PgI w bp (t :: r) zs l' g c wr)) (fun _ wr=>lenAt wr bp)
 case atStart=>exact ⟨[],t :: r,_,_,rfl,HJ⟩
 case round=>
  clear HJ;obtain ⟨zs,l',g,c,rfl,HH⟩:=hrel;obtain ⟨t',r',rfl⟩:=HH.out.gt.cons;have HNX:=Hi (next wr bp 0 t' r' HH.out.ps);by_cases hk:t'.k = 0
  ·have hq:((t'.k:Int) != 0)=false:=by simp;omega
   go_wp2_with fail
   refine HNX.out.mono ?_;rintro e w2 ⟨rfl,hb2⟩;have HNO:=Hi (show Calls Tryz.prog 125 #[.int .i64 13,.string ⟨#[]⟩,.int .i64 (t.at_:Int),.slice (some ⟨g,0,none⟩) zs.length c] w2 _ from node w2 13 t.at_ [] (some ⟨g,0,none⟩) zs.length c);have HB2:=Hi hb2;clear hb2 HNX;go_wp2_with fail
   refine HNO.out.mono ?_;rintro e w3 ⟨rfl,hb3⟩;have hb3':=HB2.out.trans (hb3.mono HB2.out.size);have hX:=HH.out.res.below hb3' HH.out.res.lt;obtain ⟨⟨e0,e1,e2,e3,e4,e5⟩,z0,z1,z2,z3,z4,z5⟩:=Aa.c6 hX;have Aq:=Hi hX;have HB3:=Hi hb3';clear hX hb3 hb3';have hfz:=HH.out.few;have hle:=HH.out.lt;simp only [List.length_cons] at hfz hle;have HT3:=Hi (Ak.far (HH.out.arr.node V0 13 t.at_ 0 []) (Upd.of_below HB3.out fun _=>False) (fun _ h=>h.elim));go_wp2_with fail
   exact bodyPost_ret (aH rfl rfl (Aa.az Aq.out _ _ _ _ _ _) rfl) rfl (q0N hlt (Nat.lt_succ_self _) HT3.out (show Al (t :: r) (.ok [.mk 13 t.at_ [] 0 [] zs] (t' :: r')) from ⟨zs,rfl,HH.out.rd _ (q2Q hk),t',r',rfl,hk⟩) (HH.out.ps.below HB3.out) HH.out.gt Vp (HH.out.ub.trans (q01 HB3.out)))
  ·have hq:((t'.k:Int) != 0)=true:=by simp;omega
   have HST:=Hi fun (w':World) (hb:Below wr.heap.size wr w')=>statement w' bp t' r' (HH.out.ps.below hb) HH.out.gt
   go_wp2_with fail
   refine HNX.out.mono ?_;rintro e w10 ⟨rfl,df⟩;have HW10:=Hi (HST.out w10 df);have HB10:=Hi df;clear df HST HNX;go_wp2_with fail
   refine HW10.out.mono ?_;rintro e w11 (⟨k',a',s',m',A2,la2,cA2,B2,lb2,cB2,x',r11,rfl,hT,hR,hP,hG,hr,hU⟩ | ⟨a',er,rfl,hR,hU⟩);rotate_left
   ·have HR:=Hi (HH.out.rd _ (q2R hk hR));have HU11:=Hi ((HH.out.ub.trans (q01 HB10.out)).trans hU);exact V3X
   obtain ⟨css,how,hts⟩:=HH.out.arr;have hu11:UB bp wr w11:=(q01 HB10.out).trans hU;have hT11:Ak (fun b=>wr.heap.size<=b) w11 x' (bG k' a' s' m' A2 la2 cA2 B2 lb2 cB2):=hT.up HB10.out.size;have HOA:=Hi (World.ownsRow.alloc (q0O how hu11 V0V) (.cells #[.int .i64 (k':Int),.string ⟨s'.toArray⟩,.int .u32 (m':Int),.int .i64 (a':Int),.slice A2 la2 cA2,.slice B2 lb2 cB2] 26));have HLI:=Hi (q06 w11 26 (bG k' a' s' m' A2 la2 cA2 B2 lb2 cB2));have hsz:w.heap.size+1<=w11.heap.size:=by have:=HH.out.res.lt;have:=hu11.size;omega
   have HBS:=Hi (show w.heap.size+1<=(w11.alloc (.cells #[.int .i64 (k':Int),.string ⟨s'.toArray⟩,.int .u32 (m':Int),.int .i64 (a':Int),.slice A2 la2 cA2,.slice B2 lb2 cB2] 26)).heap.size from V4);have hfew:=HH.out.few;have hle:=HH.out.lt;simp only [List.length_cons] at hfew hle hr;have HOW:=Hi how;have HTS:=Hi hts;have HU11:=Hi hu11;have HT11:=Hi hT11;have HR11:=Hi hR;have HP11:=Hi hP;have HG11:=Hi hG;clear how hts hu11 hT11 hT hR hP hG hU hsz;go_wp2_with (at_builtin;refine q0d rfl _ _ 23 rfl (w.heap.size+1) 26 i0 (.agg #[.int .i64 0,.string ⟨#[]⟩,.int .u32 0,.int .i64 0,.slice none 0 0,.slice none 0 0]) 6 88 Tryz.underlying23 HI.out HZ0.out HZ1.out HZ2.out rfl V2 _ zs.length _ rfl HOA.out ⟨w11.heap.size,0,none⟩ 1 1 (bG k' a' s' m' A2 la2 cA2 B2 lb2 cB2) rfl rfl HLI.out VN V6 V0 HBS.out V2 ?_;intro g8 c8 w12 hE;have HE8:=Hi hE;clear hE)
   have HSP:=Hi (q1D HOW.out HTS.out V0 HU11.out HT11.out HE8.out);have hgw:=(q0Q HOW.out).1;have HJ8:Hid (PgI w bp (t :: r) (zs ++ [x']) r11 g8 c8 w12):=Hi ⟨fun o h=>HH.out.rd o (q6g hk HR11.out h),HP11.out.far HSP.out.2.2 fun b hb=>V0,HG11.out,Vp,HSP.out.1,V4,HSP.out.2.1 w V0 HH.out.ub,(HH.out.res.upd HU11.out V0).upd HSP.out.2.2 V0⟩
   go_roundw
   case rel=>exact ⟨zs ++ [x'],r11,g8,c8,V0t,HJ8⟩
   case measure=>
    exact V43
end
section
attribute [local go_sem] bH bI bJ
theorem catch_idle(p q s:Addr)(w:World) :
  CallsD Tryz.prog 100 #[.pointer (some p),.pointer (some q),.pointer (some s)] .returning w fun e u' w'=>e = .returned (.tuple #[])/\u' = .returning/\w'=w:=by
 have hnil:∀ w:World,(binOp BinOp.neq 20 .nilIface .nilIface).run Tryz.prog w = .ok (.bool false) w:=fun _=>V1
 refine callsD_of_wpS Tryz.func100 rfl fun c₀ cs hu=>?_
 apply wpS_seq;apply wpS_region;simp [wpOpsS,go_sem,recoverD,hu,Tryz.ntmps100,Exit.thenS];refine wpS_of_wp ?_;go_wp2_with fail
 cases c₀
 simp_all [bodyPostS,results,Tryz.results100]
def KW(g a er:Nat)(w:World):Prop:=w.cell? ⟨g,0,none⟩=some (.int .i64 (a:Int))/\w.cell? ⟨g,1,none⟩=some (.int .i64 (er:Int))
theorem KW.of{g a er:Nat}{w:World}{t:TypeId}(h:Aa w g t #[.int .i64 (a:Int),.int .i64 (er:Int)]):KW g a er w:=⟨h.cell 0,h.cell 1⟩
theorem catch_wrong(g a er:Nat)(w:World){n0 n1 n2 n3 n4 n5 a0 q0:Value}(hn:Aa w g 26 #[n0,n1,n2,n3,n4,n5])(ha:Aa w (g+1) 3 #[a0])(he:Aa w (g+2) 27 #[q0]) :
  CallsD Tryz.prog 100 #[.pointer (some ⟨g,0,none⟩),.pointer (some ⟨g+1,0,none⟩),.pointer (some ⟨g+2,0,none⟩)] (.panicking [{ v:=.iface 158 (.agg #[.int .i64 (a:Int),.int .i64 (er:Int)]),recovered:=false }]) w fun e u' w'=>e = .returned (.tuple #[]) /\
   u' = .panicking [{ v:=.iface 158 (.agg #[.int .i64 (a:Int),.int .i64 (er:Int)]),recovered:=true }] /\
   Aa w' g 26 #[.int .i64 0,.string ⟨#[]⟩,.int .u32 0,.int .i64 0,.slice none 0 0,.slice none 0 0]/\Aa w' (g+1) 3 #[.int .i64 (a:Int)]/\Aa w' (g+2) 27 #[.int .i64 (er:Int)]/\Upd (fun b=>g<=b) w w':=by
 have hne:∀ w:World,(binOp BinOp.neq 20 (.iface 158 (.agg #[.int .i64 (a:Int),.int .i64 (er:Int)])) .nilIface).run Tryz.prog w = .ok (.bool true) w:=fun _=>V1
 have hta:∀ w:World,(Instr.typeAssert (.iface 158 (.agg #[.int .i64 (a:Int),.int .i64 (er:Int)])) 20 158 false).run Tryz.prog w = .ok (.agg #[.int .i64 (a:Int),.int .i64 (er:Int)]) w:=fun _=>V1
 refine callsD_of_wpS Tryz.func100 rfl fun c₀ cs hu=>?_
 apply wpS_seq;apply wpS_region;simp [wpOpsS,go_sem,recoverD,hu,Tryz.ntmps100,Exit.thenS];refine wpS_of_wp ?_;simp only [Array.replicate_succ,Array.replicate_zero,List.push_toArray,List.setIfInBounds_toArray,List.set_cons_succ,List.set_cons_zero,List.append_toArray,List.cons_append,List.nil_append];have HNN:=Hi hn;have HAA:=Hi ha;have HEE:=Hi he;clear hn ha he;go_upto_region 3 with fail
 obtain ⟨w1,hw1,hb1,hbw⟩:=aS w #[.int .i64 (a:Int),.int .i64 (er:Int)] 158;have hg0:=HNN.out.lt;have hg1:=HAA.out.lt;have hg2:=HEE.out.lt;have hN:=(HNN.out.below hb1 hg0).drew;have hA:=(HAA.out.below hb1 hg1).drew;have hE:=(HEE.out.below hb1 hg2).drew;have aa:KW w.heap.size a er w1.drew:=KW.of hbw.drew;have HBW:=Hi hbw.drew;have Aj:=Hi (show Upd (fun b=>g<=b) w w1.drew from (Upd.of_below hb1 _).drew);rw [hw1];clear hw1 hb1 hbw;obtain ⟨w2,hw2⟩:∃ w2,w1.drew=w2:=⟨_,rfl⟩;refine HT.wp_region (Z:=fun w'=>KW w.heap.size a er w') (S:=fun _=>True) (st:=[]) V1 ?_;rw [hw2] at hN hA hE aa HBW Aj ⊢;clear hw2;refine HT.bg (i:=0) (v:=?_) rfl V1 V1 V1 V1 (fun _ _ _ h=>h) (Or.inl ⟨V8,?_⟩) aa (fun _=>trivial) ?_;rotate_left
 ·exact VC
 (try simp only [HT.pS]);refine HT.bg (i:=1) (v:=?_) rfl V1 V1 V1 V1 (fun _ _ _ h=>h) (Or.inl ⟨V8,?_⟩) aa (fun _=>trivial) ?_;rotate_left
 ·exact VC
 (try simp only [HT.pS]);refine HT.bg (i:=2) (v:=?_) rfl V1 V1 V1 V1 (fun _ _ _ h=>h) (Or.inl ⟨V8,?_⟩) aa (fun _=>trivial) ?_;rotate_left
 ·exact VC
 (try simp only [HT.pS]);refine HT.bg (i:=3) (v:=?_) rfl V1 V1 V1 V1 (fun _ _ _ h=>h) (Or.inl ⟨V8,?_⟩) aa (fun _=>trivial) ?_;rotate_left
 ·exact VC
 (try simp only [HT.pS]);refine HT.bg (i:=4) (v:=?_) rfl V1 V1 V1 V1 (fun _ _ _ h=>h) (Or.inl ⟨V8,?_⟩) aa (fun _=>trivial) ?_;rotate_left
 ·exact VC
 (try simp only [HT.pS]);obtain ⟨⟨e0,e1,e2,e3,e4,e5⟩,z0,z1,z2,z3,z4,z5⟩:=Aa.c6 hN;have c1:w2.cell? ⟨g+1,0,none⟩=some a0:=hA.cell 0;have c2:w2.cell? ⟨g+2,0,none⟩=some q0:=hE.cell 0;have f1:=hA.frozen 0;have hgw:w.heap.size≠g:=V0;have hgw1:w.heap.size≠g+1:=V0;have hgw2:w.heap.size≠g+2:=V0;have f2:=hE.frozen 0;refine HT.one (i:=5) V1 rfl (fun K hK=>?_);go_simp;refine hK.out _ _ (KW.of (q0u HBW.out hgw _ _ _ _ _ _)) trivial ?_;clear hK K;(try simp only [HT.pS]);refine HT.one (i:=6) V1 rfl (fun K hK=>?_);go_simp;refine hK.out _ _ (KW.of ((q0u HBW.out hgw _ _ _ _ _ _).far (p:=⟨g+1,0,none⟩) hgw1 _)) trivial ?_;clear hK K;(try simp only [HT.pS]);refine HT.one (i:=7) V1 rfl (fun K hK=>?_);go_simp;refine hK.out _ _ (KW.of (((q0u HBW.out hgw _ _ _ _ _ _).far (p:=⟨g+1,0,none⟩) hgw1 _).far (p:=⟨g+2,0,none⟩) hgw2 _)) trivial ?_;clear hK K;refine HT.done V1 ?_;(try simp only [HT.pS]);have hg01:g≠g+1:=V0;have hg02:g≠g+2:=V0;have hg12:g+1≠g+2:=V0;have hNN:=((Aa.az hN (.int .i64 0) (.string ⟨#[]⟩) (.int .u32 0) (.int .i64 0) (.slice none 0 0) (.slice none 0 0)).far (p:=⟨g+1,0,none⟩) hg01 (.int .i64 (a:Int))).far (p:=⟨g+2,0,none⟩) hg02 (.int .i64 (er:Int));have hAA:Aa _ (g+1) 3 #[.int .i64 (a:Int)]:=((q0u hA (Ne.symm hg01) (.int .i64 0) (.string ⟨#[]⟩) (.int .u32 0) (.int .i64 0) (.slice none 0 0) (.slice none 0 0)).set 0 (.int .i64 (a:Int))).far (p:=⟨g+2,0,none⟩) hg12 (.int .i64 (er:Int));have hEE:Aa _ (g+2) 27 #[.int .i64 (er:Int)]:=((q0u hE (Ne.symm hg02) (.int .i64 0) (.string ⟨#[]⟩) (.int .u32 0) (.int .i64 0) (.slice none 0 0) (.slice none 0 0)).far (p:=⟨g+1,0,none⟩) (Ne.symm hg12) (.int .i64 (a:Int))).set 0 (.int .i64 (er:Int));have hUU:=((q09 Aj.out (fun _=>Nat.le_refl g) (.int .i64 0) (.string ⟨#[]⟩) (.int .u32 0) (.int .i64 0) (.slice none 0 0) (.slice none 0 0)).setCell (p:=⟨g+1,0,none⟩) (fun _=>by show g<=g+1;omega) (.int .i64 (a:Int))).setCell (p:=⟨g+2,0,none⟩) (fun _=>by show g<=g+2;omega) (.int .i64 (er:Int));exact ⟨rfl,_,rfl,_,results_none rfl _ _ _,rfl,rfl,hNN,hAA,hEE,hUU⟩
end
end Pa
end Go.Proofs.YtcgibpdjfgjldaaGreatDoor
