/- DERIVED. RqPx, EvLc, NmNd, NmTb. By an AI agent. -/
import Derived.Test.YtcgibpdjfgjldaaGreatDoorT42
import Derived.Test.YtcgibpdjfgjldaaGreatDoorT44
import Derived.LaidMore
import Derived.LaidLaws
import Derived.MakeChecks
import Derived.Stop.Joined
import Derived.Lay
set_option maxRecDepth 100000
set_option maxHeartbeats 8000000
set_option linter.unusedVariables false
set_option linter.unusedSimpArgs false
namespace Go.Proofs.YtcgibpdjfgjldaaGreatDoor
namespace Pq
open Go Go.ChangeShapes Go.WideShapes Go.ChangeAt Go.RowKit Lx Args Pa
section
attribute [local go_sem] fTk0 fTk1 fTk2
theorem r_expr(s:ByteArray)(w:World):Calls Tryz.prog 21 #[.string s] w (RdP ExprR s w):=by
 obtain ⟨w0,hw0,hb0,hB⟩:=q06 w;have HWD:=Hi (words s w0);have HB0:=Hi hb0;have HB:=Hi hB;have HW:=Hi hw0;have hlb:=hB.lt;clear hb0 hw0 hB;go_enter Tryz.func21,Tryz.ntmps21;go_wp2_with fail
 rw [HW.out];refine HWD.out.mono ?_;rintro e w1 ⟨A,c,rfl,hL,hb1⟩;by_cases her:(wordsL s.data.toList).er = 0;rotate_left
 ·have hq:(((wordsL s.data.toList).er:Int) != 0)=true:=by simp;omega
  have hbad:BadR ExprR (wordsL s.data.toList) (wordsL s.data.toList).at_ (wordsL s.data.toList).er:=.inl ⟨her,rfl,rfl⟩;generalize (wordsL s.data.toList).l.length=n at *;have hX:=HB.out.below hb1 HB.out.lt;obtain ⟨⟨e0,e1,e2,e3,e4,e5⟩,z0,z1,z2,z3,z4,z5⟩:=Blk.c6 hX;have hxl:=hX.lt;have HEND:=Hi (q4V hbad (((((((HB0.out.trans (hb1.mono HB0.out.size)).setCell (p:=⟨w.heap.size,0,none⟩) (Nat.le_refl _) (.int .i64 0)).setCell (p:=⟨w.heap.size,1,none⟩) (Nat.le_refl _) (.string ⟨#[]⟩)).setCell (p:=⟨w.heap.size,2,none⟩) (Nat.le_refl _) (.int .u32 0)).setCell (p:=⟨w.heap.size,3,none⟩) (Nat.le_refl _) (.int .i64 0)).setCell (p:=⟨w.heap.size,4,none⟩) (Nat.le_refl _) (.slice none 0 0)).setCell (p:=⟨w.heap.size,5,none⟩) (Nat.le_refl _) (.slice none 0 0)));generalize (wordsL s.data.toList).er=er at *;generalize (wordsL s.data.toList).at_=at_ at *;have HX:=Hi hX;clear hL hb1 hbad her hX;go_wp2_with fail
  exact bodyPost_ret (v:=zV at_ er) (q1j rfl _ _ rfl (Blk.put6 HX.out _ _ _ _ _ _) rfl rfl rfl) rfl HEND.out
 rw [her];have hg:=q2u her;obtain ⟨l,hl⟩:∃ l,(wordsL s.data.toList).l=l:=⟨_,rfl⟩;have hrdp:∀ a er,ExprR l (.bad a er)->BadR ExprR (wordsL s.data.toList) a er:=fun a er h=>.inr ⟨her,.inl (by rw [hl];exact h)⟩
 have hrdm:∀ xs t r,ExprR l (.ok xs (t :: r))->t.k≠0->BadR ExprR (wordsL s.data.toList) t.at_ 100:=fun xs t r h hk=>.inr ⟨her,.inr ⟨xs,t,r,by rw [hl];exact h,hk,rfl,rfl⟩⟩
 rw [hl] at hg hL ⊢;generalize (wordsL s.data.toList).at_=at_;obtain ⟨w2,hw2,hb2,-⟩:=alK w1 #[.slice A l.length c,.int .i64 0,.int .i64 0,.int .i64 0] 60;have hq2:QS w2 w1.heap.size l 0 0:=by rw [<-hw2];exact qs_new hg hL
 have h01:=hb1.size;have h12:=hb2.size;have HX2:=Hi ((HB.out.below hb1 HB.out.lt).below hb2 V0);have HB2:=Hi ((HB0.out.trans (hb1.mono HB0.out.size)).trans (hb2.mono (HB0.out.trans (hb1.mono HB0.out.size)).size));have HE:=Hi (ex w2 w1.heap.size 0 l hq2 hg);have HW2:=Hi hw2;have HRB:=Hi hrdp;have HRM:=Hi hrdm;have HL:=Hi hl;have HER:=Hi her;clear hb1 hb2 hq2 hw2 hL hrdp hrdm hl her hg;go_wp2_with fail
 rw [HW2.out];refine (show Calls Tryz.prog 46 #[.pointer (some ⟨w1.heap.size,0,none⟩),.int .i64 0] w2 _ from HE.out).mono ?_;rintro e w3 ⟨k,a,sx,n,A',la,cA,B,lb,cB,rfl,hU,hO⟩;have h23:=hU.size;have HX3:=Hi (HX2.out.upd hU (show ¬ w.heap.size=w1.heap.size from V0));have HU:=Hi hU;have HB3:=Hi (HB2.out.trans ((hU.below (B:=w.heap.size) V0 fun k hk=>V0)));rcases hO with ⟨x,r,hT,hR,hP,hG,hr⟩ | ⟨ba,er,t,r,he,hR,hP⟩
 ·obtain ⟨t,r,rfl⟩:=hG.cons;have HT3:=Hi (show TIn (fun b=>w.heap.size+1<=b) w3 x (ndC k a sx n A' la cA B lb cB) from tup hT V0);by_cases hk:t.k = 0
  ·have HD:=Hi (done_ok w3 w1.heap.size t r hP hk k a n la cA lb cB sx A' B);have HRE:=Hi (show ExprR l (.ok [x] (t :: r)) from hR);have HK:=Hi hk;clear hU hT hR hP hG hr hk;go_wp2_with fail
   refine HD.out.mono ?_;rintro e w4 ⟨rfl,hb4⟩;have hX:=HX3.out.below hb4 HX3.out.lt;have hxl:=hX.lt;obtain ⟨⟨e0,e1,e2,e3,e4,e5⟩,z0,z1,z2,z3,z4,z5⟩:=Blk.c6 hX;have hu:Upd (fun b=>b=w.heap.size) w4 _:=q02 (X:=fun b=>b=w.heap.size) (Upd.refl _ w4) (fun _=>rfl) (.int .i64 (k:Int)) (.string ⟨sx.toArray⟩) (.int .u32 (n:Int)) (.int .i64 (a:Int)) (.slice A' la cA) (.slice B lb cB);have HEND:=Hi (show RdP ExprR s w (.returned (.tuple #[.agg #[.int .i64 (k:Int),.string ⟨sx.toArray⟩,.int .u32 (n:Int),.int .i64 (a:Int),.slice A' la cA,.slice B lb cB],.int .i64 0,.int .i64 0])) _ from
    .inl ⟨k,a,sx,n,A',la,cA,B,lb,cB,x,t,r,rfl,HER.out,by rw [HL.out];exact HRE.out,HK.out,tup (tfar (HT3.out.upd (Upd.of_below hb4 fun _=>False) fun _ _ h=>h) hu fun b hb=>V0) (Nat.le_succ _),((Upd.of_below (HB3.out.trans (hb4.mono HB3.out.size)) (fun b=>b=w.heap.size)).trans hu).below (Nat.le_refl _) fun k hk=>V0⟩)
   have HN:=Hi (Blk.put6 hX (.int .i64 (k:Int)) (.string ⟨sx.toArray⟩) (.int .u32 (n:Int)) (.int .i64 (a:Int)) (.slice A' la cA) (.slice B lb cB));clear hX hu hb4;go_wp2_with fail
   exact bodyPost_ret (v:=.tuple #[.agg #[.int .i64 (k:Int),.string ⟨sx.toArray⟩,.int .u32 (n:Int),.int .i64 (a:Int),.slice A' la cA,.slice B lb cB],.int .i64 0,.int .i64 0]) (q1j rfl _ _ rfl HN.out rfl rfl rfl) rfl HEND.out
  ·have HD:=Hi (q7c w3 w1.heap.size t r hP hk k a n la cA lb cB sx A' B);have HBD:=Hi (HRM.out [x] t r hR hk);clear hU hT hR hP hG hr hk;go_wp2_with fail
   refine HD.out.mono ?_;rintro e w4 ⟨rfl,hu4⟩;have hX:=HX3.out.upd hu4 (show ¬ w.heap.size=w1.heap.size from V0);have hxl:=hX.lt;have h34:=hu4.size;obtain ⟨⟨e0,e1,e2,e3,e4,e5⟩,z0,z1,z2,z3,z4,z5⟩:=Blk.c6 hX;have hu:Upd (fun b=>b=w.heap.size\/b=w1.heap.size) w4 _:=q02 (X:=fun b=>b=w.heap.size\/b=w1.heap.size) (Upd.refl _ w4) (fun _=>.inl rfl) (.int .i64 0) (.string ⟨#[]⟩) (.int .u32 0) (.int .i64 0) (.slice none 0 0) (.slice none 0 0);have HEND:=Hi (q4V (w:=w) (w':=put6 w4 w.heap.size (.int .i64 0) (.string ⟨#[]⟩) (.int .u32 0) (.int .i64 0) (.slice none 0 0) (.slice none 0 0)) HBD.out (HB3.out.trans (((hu4.mono (fun b hb=>Or.inr hb)).trans hu).below V0 fun k hk=>V0)));have HN:=Hi (Blk.put6 hX (.int .i64 0) (.string ⟨#[]⟩) (.int .u32 0) (.int .i64 0) (.slice none 0 0) (.slice none 0 0));clear hX hu hu4;go_wp2_with fail
   exact bodyPost_ret (v:=zV t.at_ 100) (q1j rfl _ _ rfl HN.out rfl rfl rfl) rfl HEND.out
 ·have HD:=Hi (q7b w3 w1.heap.size ba er t r hP he k a n la cA lb cB sx A' B);have HBD:=Hi (HRB.out ba er hR);clear hU hR hP he;go_wp2_with fail
  refine HD.out.mono ?_;rintro e w4 ⟨rfl,hb4⟩;have hX:=HX3.out.below hb4 HX3.out.lt;have hxl:=hX.lt;obtain ⟨⟨e0,e1,e2,e3,e4,e5⟩,z0,z1,z2,z3,z4,z5⟩:=Blk.c6 hX;have hu:Upd (fun b=>b=w.heap.size) w4 _:=q02 (X:=fun b=>b=w.heap.size) (Upd.refl _ w4) (fun _=>rfl) (.int .i64 0) (.string ⟨#[]⟩) (.int .u32 0) (.int .i64 0) (.slice none 0 0) (.slice none 0 0);have HEND:=Hi (q4V (w:=w) (w':=put6 w4 w.heap.size (.int .i64 0) (.string ⟨#[]⟩) (.int .u32 0) (.int .i64 0) (.slice none 0 0) (.slice none 0 0)) HBD.out (((Upd.of_below (HB3.out.trans (hb4.mono HB3.out.size)) (fun b=>b=w.heap.size)).trans hu).below (Nat.le_refl _) fun k hk=>V0));have HN:=Hi (Blk.put6 hX (.int .i64 0) (.string ⟨#[]⟩) (.int .u32 0) (.int .i64 0) (.slice none 0 0) (.slice none 0 0));clear hX hu hb4;go_wp2_with fail
  exact bodyPost_ret (v:=zV ba er) (q1j rfl _ _ rfl HN.out rfl rfl rfl) rfl HEND.out
end
end Pq
namespace Ev
open Go Go.ChangeShapes Go.WideShapes Go.ChangeAt Go.RowKit Lx Args Pa Sh Go.Proofs.YtcgibpdjfgjldaaGreatDoor.Nm WMath Fl
abbrev zT:Tz:=.mk 0 0 [] 0 [] []
theorem zT_md:mdE zT:=by simp [mdE,mdEs]
theorem zT_tr(w:World):TrV w zT 0 0 [] 0 none 0 0 none 0 0:=by
 refine ⟨?_,?_,?_⟩
 ·unfold TIc;exact ⟨none,0,none,0,rfl,V2,V2,Lies.nil _ _,[],Lies.nil _ _,by unfold TsIc;rfl,fun _=>⟨⟨V2,V2⟩,V2,V2⟩⟩
 ·unfold lenz lenzs;exact ⟨V2,fun p hp=>(by cases hp),trivial⟩
 ·unfold nz nzs;exact ⟨V2,trivial⟩
theorem ans_con{z:Tz}(hd:mdE z){c:BitVec 32}(h:conB z=some c)(kn:Kn):ansE kn z = .tuple #[uV c,.int .i64 0]:=by
 have hs:strB loN0 z=none:=by
  cases hs:strB loN0 z with
  | none=>rfl
  | some e=>rw [q3X hs] at h;cases h
 rw [q2G hs] at h;have hc:=q2b kn (SizeOf.sizeOf z+1) z (Nat.lt_succ_self _) hd hs;have h1:=q0Y kn (SizeOf.sizeOf z+1) z (Nat.lt_succ_self _) hd hc;have h2:=q1g kn (SizeOf.sizeOf z+1) z (Nat.lt_succ_self _) hd hs;unfold ansE;rw [if_pos hc,h1,<-h2];cases h;rfl
theorem walkC(W:World)(s:ByteArray):Calls Tryz.prog 8 #[.string s] W fun e W'=>e = .returned (.bool true)/\Below W.heap.size W W':=by
 have HR:=Hi (Pq.r_expr s W);have HE:=Hi fun w=>eexpr s [] [] none 0 none 0 V2 (fun s hs=>by cases hs) V2 w (Lies.nil _ _) (Lies.nil _ _)
 have HL:=Hi lives;unfold RdP at HR;unfold ExP at HE;go_enter Tryz.func8,Tryz.ntmps8;go_wp2_with fail
 refine HR.out.mono ?_;rintro e w1 (⟨k,a,sx,n,Ax,la,cA,B,lb,cB,x,t,r,rfl,h1,h2,h3,hT,hb⟩ | ⟨a,er,rfl,hbad,hb⟩)
 ·obtain ⟨z1,z2,z3⟩:=q8U h1 h2;have hTV:TrV w1 (embz x) (k:Int) (a:Int) sx n Ax la cA B lb cB:=⟨q2W hT,z1,z2⟩;obtain ⟨w2,hw2,hb2,hX2,hs2⟩:=q05 w1 (nB (k:Int) (a:Int) sx n Ax la cA B lb cB);have HB1:=Hi hb;have HB2:=Hi hb2;have HTV:=Hi hTV;have HW2:=Hi hw2;have HX2:=Hi hX2;have H1:=Hi h1;have H2:=Hi h2;have H3:=Hi h3;have HZ:=Hi z3;clear hb hT z1 z2 z3 hTV hw2 hb2 hX2 hs2 h1 h2 h3;go_upto_region 2 with fail
  rw [HW2.out];go_wp2_with fail
  refine (show Calls Tryz.prog 15 #[.string s,.slice none 0 0,.slice none 0 0] w2 _ from HE.out w2).mono ?_;rintro e w3 ⟨hb3,(⟨x',t',r',h1',h2',h3',rfl⟩ | ⟨a',er',hbad,rfl⟩)⟩
  ·obtain rfl:=q8k H2.out h2';have hX3:=HX2.out.below hb3 HX2.out.lt;obtain ⟨⟨e0,e1,e2,e3,e4,e5⟩,z0,z1,z2,z3,z4,z5⟩:=Blk.c6 hX3;have hgl:=hX3.lt;have hb13:=HB2.out.trans (hb3.mono HB2.out.size);have HC:=Hi (rconst (w0:=w1) (SizeOf.sizeOf (embz x)+1) (embz x) (Nat.lt_succ_self _) HZ.out w3 k a sx n Ax la cA B lb cB hb13 HTV.out);have HB3:=Hi (HB1.out.trans (hb13.mono HB1.out.size));have HAN:=Hi fun c (h:conB (embz x)=some c)=>ans_con HZ.out h (knOf [] [])
   unfold ConP' at HC;obtain ⟨u,v,hans⟩:∃ (u:BitVec 32) (v:Nat),ansE (knOf [] []) (embz x) = .tuple #[uV u,.int .i64 (v:Int)]:=by
    unfold ansE;cases canB (knOf [] []) (embz x) with
    | true=>exact ⟨_,0,rfl⟩
    | false=>exact ⟨0,1,rfl⟩
   rw [hans] at HAN;have HANS:=Hi hans;obtain ⟨cn,hcn⟩:∃ cn,conB (embz x)=cn:=⟨_,rfl⟩;rw [hcn] at HC HAN;clear hb3 h1' h2' h3' hX3 hb13 hcn hans;rw [HANS.out];go_wp2_with fail
   refine (show Calls Tryz.prog 22 #[nzA k a sx n Ax la cA B lb cB,.slice none 0 0] w3 _ from HC.out).mono ?_;rintro e w4 ⟨rfl,hb4⟩;have HB4:=Hi (HB3.out.trans (hb4.mono HB3.out.size));have HLV:=Hi (HL.out w4);clear hb4 e0 e1 e2 e3 e4 e5 z0 z1 z2 z3 z4 z5 hgl;cases cn with
   | none=>
    exact V2H
   | some c=>
    have h:=HAN.out c rfl;simp only [Value.tuple.injEq,Array.mk.injEq,List.cons.injEq,Value.int.injEq,true_and,and_true] at h;obtain ⟨hu,hv⟩:=h;obtain rfl:u=c:=BitVec.eq_of_toNat_eq V0;obtain rfl:v = 0:=V0;clear hu hv;exact V2H
  ·exact (q2S H1.out H3.out H2.out hbad).elim
 ·have hne:=q8V hbad;have i1:((er:Int) != 0)=true:=V4;obtain ⟨w2,hw2,hb2,hX2,hs2⟩:=q05 w1 #[.int .i64 0,.string ⟨#[]⟩,.int .u32 0,.int .i64 0,.slice none 0 0,.slice none 0 0];have HB2:=Hi (hb.trans (hb2.mono hb.size));have HBD:=Hi hbad;have HW2:=Hi hw2;have HX2:=Hi hX2;clear hb hw2 hb2 hX2 hs2 hbad;go_upto_region 2 with fail
  rw [HW2.out];go_wp2_with fail
  refine (show Calls Tryz.prog 15 #[.string s,.slice none 0 0,.slice none 0 0] w2 _ from HE.out w2).mono ?_;rintro e w3 ⟨hb3,(⟨x',t',r',h1',h2',h3',rfl⟩ | ⟨a',er',hbad,rfl⟩)⟩
  ·exact (q2S h1' h3' h2' HBD.out).elim
  obtain rfl:er=er':=q8l HBD.out hbad;have hX3:=HX2.out.below hb3 HX2.out.lt;obtain ⟨⟨e0,e1,e2,e3,e4,e5⟩,z0,z1,z2,z3,z4,z5⟩:=Blk.c6 hX3;have hgl:=hX3.lt;have HC:=Hi (rconst (w0:=w3) (SizeOf.sizeOf zT+1) zT (Nat.lt_succ_self _) zT_md w3 0 0 [] 0 none 0 0 none 0 0 (Below.refl _ _) (zT_tr w3));have HB3:=Hi (HB2.out.trans (hb3.mono HB2.out.size));unfold ConP' at HC;clear hb3 hX3 hbad;go_wp2_with fail
  refine (show Calls Tryz.prog 22 #[.agg #[.int .i64 0,.string ⟨#[]⟩,.int .u32 0,.int .i64 0,.slice none 0 0,.slice none 0 0],.slice none 0 0] w3 _ from HC.out).mono ?_;rintro e w4 ⟨rfl,hb4⟩;have HB4:=Hi (HB3.out.trans (hb4.mono HB3.out.size));have HLV:=Hi (HL.out w4);clear hb4 e0 e1 e2 e3 e4 e5 z0 z1 z2 z3 z4 z5 hgl;go_wp2_with fail
  refine (show Calls Tryz.prog 18 #[] w4 _ from HLV.out).mono ?_;rintro e w5 ⟨rfl,hb5⟩;have HEND:=Hi (HB4.out.trans (hb5.mono HB4.out.size));clear hb5;go_wp2_with fail
  go_ret;exact ⟨rfl,HEND.out⟩
end Ev
namespace Sh
open Go Go.ChangeShapes Go.WideShapes Go.ChangeAt Go.RowKit Lx Args Pa
section
variable {H : Type} {enc : TypeId × Value -> H} {w : World} {base : Nat} {spare : Nat -> Bool} {held : Bool}
end
end Sh
namespace Nm
open Go.ChangeShapes Go.WideShapes Go.ChangeAt Go.RowKit
theorem fit_one{H:Type}{P:Program}{t:TypeId}{ts:List TypeId}{d:DataW H}{ds:List (DataW H)}(h:(DataW.weightsEach P (t :: ts) (d :: ds)).all (·<=reachBytes)=true) :
  (d.weights P t).all (·<=reachBytes)=true/\(DataW.weightsEach P ts ds).all (·<=reachBytes)=true:=by
 simp only [DataW.weightsEach,List.all_append,Bool.and_eq_true] at h;exact h
theorem witRow{H:Type}{enc:TypeId×Value->H}{C:Checked}{os:Os}{f:FuncId}{fn:Func}{s:OpenSpec}{conds:List PathCond}{apart:Bool}{laid:List (String×DataW Unit)}(modest:Bool)(w0:World)(args:Array Value)(hos:w0.os=os)
  (hsh:(w0.forCall (fun _ _=>0) ⟨#[],args,[]⟩).Shaped C.prog)
  (hok:Input.okWideB C.prog (w0.forCall (fun _ _=>0) ⟨#[],args,[]⟩) f ⟨#[],args,[]⟩=true)
  (hrow:s.preRow enc C.prog fn conds apart laid (w0.forCall (fun _ _=>0) ⟨#[],args,[]⟩).memory args) :
  ∃ (w:World) (tape:Tape) (i:Input),w.os=os/\(w.forCall tape i).Shaped C.prog/\i.vars=[]/\Input.okWide C.prog (w.forCall tape i) .any w.heap.size f i /\
   s.preRow enc C.prog fn conds apart laid (w.forCall tape i).memory i.args/\({ modest:=modest }:Assume).holds C.prog (lone (Frame.enter C.prog f i.args .normal) [] (w.forCall tape i)):=
 ⟨w0,fun _ _=>0,⟨#[],args,[]⟩,hos,hsh,(Input.okWide_of_okWideB (base:=0) hok).1,(Input.okWide_of_okWideB hok).2,hrow,by
  simp only [Assume.holds];exact ⟨V3,V3,fun _=>Modest.zero,V3,V3⟩⟩
end Nm
end Go.Proofs.YtcgibpdjfgjldaaGreatDoor
