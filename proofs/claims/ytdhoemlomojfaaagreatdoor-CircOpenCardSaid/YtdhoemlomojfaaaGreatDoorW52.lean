/- DERIVED. CiWw, NmTb. By an AI agent. -/
import Derived.Test.YtdhoemlomojfaaaGreatDoorW01
import Derived.Test.YtdhoemlomojfaaaGreatDoorW03
import Derived.Test.YtdhoemlomojfaaaGreatDoorW49
import Derived.Test.YtdhoemlomojfaaaGreatDoorW47
import Derived.Test.YtdhoemlomojfaaaGreatDoorW51
import Derived.Test.YtdhoemlomojfaaaGreatDoorW48
import Derived.Test.YtdhoemlomojfaaaGreatDoorRows
import Derived.ProofKit
import Derived.LaidMore
import Derived.LaidLaws
import Derived.OpenShut
import Derived.MakeChecks
import Derived.Stop.Joined
import Derived.Lay
set_option maxRecDepth 100000
set_option maxHeartbeats 2000000
set_option linter.unusedVariables false
set_option linter.unusedSimpArgs false
namespace Go.Proofs.YtdhoemlomojfaaaGreatDoor.Ci
open Go Go.ChangeShapes Go.WideShapes Go.ChangeAt Go.RowKit Lx Args Pa Sh Go.Proofs.YtdhoemlomojfaaaGreatDoor.Nm WMath Word Fl
theorem walkW(w:World)(A:Option Addr)(cA:Nat)(sc pb:Int)(B:Option Addr)(cB:Nat)(l:List Gt)(os:List TI)(hC:Cir w A cA B cB l os)(S:List (BitVec 32))(SA:Option Addr)(sC:Nat)(hs1':S.length≤sC)(hs2:sC≤maxLen)(hs3:100 < S.length→∃ b o,SA=some ⟨b,o,none⟩)(hs4:Lies w SA (S.map u))(P:List (BitVec 32))(PA:Option Addr)(pC:Nat)(hp1:P.length≤pC)(hp2:pC≤maxLen)(hp3:100 < P.length→∃ b o,PA=some ⟨b,o,none⟩)(hp4:Lies w PA (P.map u)) :
  Calls Tryz.prog 4 #[crV A l.length cA sc pb B os.length cB,.slice SA S.length sC,.slice PA P.length pC] w fun e w'=>e = .returned (.bool true)∧Below w.heap.size w w':=by
 obtain ⟨w1,hw1,hb1,hX1,hs1⟩:=c_box w (crB A l.length cA sc pb B os.length cB);have HB1:=Hi hb1;have HX1:=Hi hX1;have HC1:=Hi (hC.below hb1);have HSH:=Hi (short w1 S SA sC hs1' hs2 hs3 (hs4.below hb1));have HPL:=Hi (hp4.below hb1);have HPS:=Hi fun (v:World) (hv:Below w1.heap.size w1 v)=>short v P PA pC hp1 hp2 hp3 ((hp4.below hb1).below hv)
 have HW1:=Hi (show w.alloc (.cells #[.slice A l.length cA,.int .i64 sc,.int .i64 pb,.slice B os.length cB] 25)=w1 from hw1);have hSl:(S.take 100).length≤9223372036854775807:=by simp;omega
 have hPl:(P.take 100).length≤9223372036854775807:=by simp;omega
 generalize S.take 100=S1 at HSH hSl;generalize P.take 100=P1 at HPS hPl;obtain ⟨e0,e1,e2,e3,z0,z1,z2,z3⟩:=Blk.c4 hX1;have hgl:=hX1.lt;clear hw1 hb1 hX1 hs1 hC hs1' hs2 hs3 hs4 hp1 hp2 hp3 hp4;go_enter Tryz.func4,Tryz.ntmps4;go_upto_region 1 with fail
 rw [HW1.out];go_wp2_with fail
 refine (show Calls Tryz.prog 10 #[.slice SA S.length sC] w1 _ from HSH.out).mono ?_;rintro e w2 ⟨A2,c2,hc21,hc22,rfl,hL2,hb2⟩;have HP2:=Hi (HPS.out w2 hb2);go_wp2_with fail
 refine (show Calls Tryz.prog 10 #[.slice PA P.length pC] w2 _ from HP2.out).mono ?_;rintro e w3 ⟨A3,c3,hc31,hc32,rfl,hL3,hb3⟩;have hb13:=hb2.trans (hb3.mono hb2.size);have hX3:=HX1.out.below hb13 HX1.out.lt;have HS3:=Hi (hL2.below hb3);have HP3:=Hi hL3;have HB3:=Hi (HB1.out.trans (hb13.mono HB1.out.size));have HX3:=Hi hX3;have HC3:=Hi (HC1.out.below hb13);have HSM:=Hi (small w3 A l.length cA sc pb B os.length cB);have HLV:=Hi (fun v=>lives v);unfold BoP at HSM;clear hb2 hb3 hb13 hL2 hL3 e0 e1 e2 e3 z0 z1 z2 z3 hgl hc21 hc22 hc31 hc32;obtain ⟨e0,e1,e2,e3,z0,z1,z2,z3⟩:=Blk.c4 hX3;have hgl:=hX3.lt;clear hX3;by_cases hsm:l.length≤3000∧os.length≤300;rotate_left
 ·rw [decide_eq_false hsm] at HSM;clear hsm;go_wp2_with fail
  refine (show Calls Tryz.prog 11 #[crV A l.length cA sc pb B os.length cB] w3 _ from HSM.out).mono ?_;rintro e w4 ⟨rfl,hb4⟩;have HL4:=Hi (HLV.out w4);have HB4:=Hi (HB3.out.trans (hb4.mono HB3.out.size));clear hb4;go_wp2_with fail
  refine (show Calls Tryz.prog 9 #[] w4 _ from HL4.out).mono ?_;rintro e w5 ⟨rfl,hb5⟩;have HEND:=Hi (HB4.out.trans (hb5.mono HB4.out.size));clear hb5;go_wp2_with fail
  go_ret;exact ⟨rfl,HEND.out⟩
 rw [decide_eq_true hsm] at HSM;obtain ⟨hm1,hm2⟩:=hsm;go_wp2_with fail
 refine (show Calls Tryz.prog 11 #[crV A l.length cA sc pb B os.length cB] w3 _ from HSM.out).mono ?_;rintro e w4 ⟨rfl,hb4⟩;have hX4:=HX3.out.below hb4 HX3.out.lt;have HB4:=Hi (HB3.out.trans (hb4.mono HB3.out.size));have HX4:=Hi hX4;have HC4:=Hi (HC3.out.below hb4);have HS4:=Hi (HS3.out.below hb4);have HP4:=Hi (HP3.out.below hb4);clear hb4 hX4 e0 e1 e2 e3 z0 z1 z2 z3 hgl;go_upto_region 4 with fail
 have hdr:Below w4.heap.size w4 w4.drew:=Below.drew (Below.refl _ _);obtain ⟨wd,hwd⟩:∃ v,w4.drew=v:=⟨_,rfl⟩;rw [hwd] at hdr;have HXd:=Hi (HX4.out.below hdr HX4.out.lt);have HCd:=Hi (HC4.out.below hdr);have HBd:=Hi (HB4.out.trans (hdr.mono HB4.out.size));have HSd:=Hi (HS4.out.below hdr);have HPd:=Hi (HP4.out.below hdr);have hZ0:Below wd.heap.size wd wd:=Below.refl _ _;have HOW:=Hi (own wd HCd.out sc pb);unfold OwP at HOW;have HLW:=Hi (show (woL S1 P1 sc pb l os).length≤100000 from by
  unfold woL;split
  ·rw [wsT_len (Nat.le_refl _)];omega
  ·simp)
 have HLO:=Hi (show (ouL S1 P1 sc pb l os).length≤100000 from by
  unfold ouL;split
  ·rw [List.length_map];omega
  ·simp)
 clear hdr;refine HT.wp_region (Z:=fun w'=>Below wd.heap.size wd w') (S:=fun _=>True) (st:=[]) (by kernel_rfl) ?_;rw [hwd];clear hwd;refine HT.tk 0 rfl (by intro v hSw;have hy:=HXd.out.below hSw HXd.out.lt;obtain ⟨e0,e1,e2,e3,z0,z1,z2,z3⟩:=Blk.c4 hy;have hgy:=hy.lt;clear hSw hy;go_simp;try with_reducible rfl) hZ0 HT.tr ?_;refine HT.tk 5 rfl (by intro v hSw;have hy:=HXd.out.below hSw HXd.out.lt;obtain ⟨e0,e1,e2,e3,z0,z1,z2,z3⟩:=Blk.c4 hy;have hgy:=hy.lt;clear hSw hy;go_simp;try with_reducible rfl) hZ0 HT.tr ?_;refine HT.tm 2 rfl hZ0 HT.tr ?_;refine HT.tm 3 rfl hZ0 HT.tr ?_;refine HT.tm 6 rfl hZ0 HT.tr ?_;refine HT.tm 7 rfl hZ0 HT.tr ?_;refine HT.one (i:=1) (by kernel_rfl) rfl (fun K hK=>?_);go_simp;refine (show Calls Tryz.prog 7 #[crV A l.length cA sc pb B os.length cB] wd _ from HOW.out).mono ?_;rintro e w5 ⟨A5,c5,B5,d5,rfl,hC5,hb5⟩;have HW5:=Hi (Words w5 hC5 sc pb (sC:=c2) (pC:=c3) (HSd.out.below hb5) (HPd.out.below hb5) hSl hPl);unfold WsP at HW5;(try dsimp only);refine hK.out _ _ hb5 trivial ?_;clear hK K;(try simp only [HT.pS]);refine HT.one (i:=4) (by kernel_rfl) rfl (fun K hK=>?_);go_simp;refine (show Calls Tryz.prog 13 #[crV A5 l.length c5 sc pb B5 os.length d5,.slice A2 S1.length c2,.slice A3 P1.length c3] w5 _ from HW5.out).mono ?_;rintro e w6 ⟨A6,c6,rfl,hL6,hb6⟩;have hz6:=hb5.trans (hb6.mono hb5.size);have HL6:=Hi hL6;have HR6:=Hi (rwords w6 (HCd.out.below hz6) sc pb (sC:=c2) (pC:=c3) (HSd.out.below hz6) (HPd.out.below hz6) hSl hPl);unfold WsP at HR6;clear hL6;(try dsimp only);refine hK.out _ _ hz6 trivial ?_;clear hK K;(try simp only [HT.pS]);refine HT.one (i:=8) (by kernel_rfl) rfl (fun K hK=>?_);go_simp;refine (show Calls Tryz.prog 14 #[crV A l.length cA sc pb B os.length cB,.slice A2 S1.length c2,.slice A3 P1.length c3] w6 _ from HR6.out).mono ?_;rintro e w7 ⟨A7,c7,rfl,hL7,hb7⟩;have hz7:=hz6.trans (hb7.mono hz6.size);have HSA:=Hi (same A6 A7 c6 c7 _ w7 (HL6.out.below hb7) hL7 HLW.out);clear hL7;(try dsimp only);refine hK.out _ _ hz7 trivial ?_;clear hK K;(try simp only [HT.pS]);generalize woL S1 P1 sc pb l os=ws at *;refine HT.one (i:=9) (by kernel_rfl) rfl (fun K hK=>?_);go_simp;refine (show Calls Tryz.prog 12 #[.slice A6 ws.length c6,.slice A7 ws.length c7] w7 _ from HSA.out).mono ?_;rintro e w8 ⟨rfl,hb8⟩;have hz8:=hz7.trans (hb8.mono hz7.size);have HO8:=Hi (Outs w8 (HCd.out.below hz8) sc pb (sC:=c2) (pC:=c3) (HSd.out.below hz8) (HPd.out.below hz8) hSl hPl (by omega));unfold WsP at HO8;(try dsimp only);refine hK.out _ _ hz8 trivial ?_;clear hK K;(try simp only [HT.pS]);refine HT.tm 10 rfl hz8 HT.tr ?_;refine HT.tk 11 rfl (by intro v hSw;have hy:=HXd.out.below hSw HXd.out.lt;obtain ⟨e0,e1,e2,e3,z0,z1,z2,z3⟩:=Blk.c4 hy;have hgy:=hy.lt;clear hSw hy;go_simp;try with_reducible rfl) hz8 HT.tr ?_;refine HT.tk 15 rfl (by intro v hSw;have hy:=HXd.out.below hSw HXd.out.lt;obtain ⟨e0,e1,e2,e3,z0,z1,z2,z3⟩:=Blk.c4 hy;have hgy:=hy.lt;clear hSw hy;go_simp;try with_reducible rfl) hz8 HT.tr ?_;refine HT.tm 12 rfl hz8 HT.tr ?_;refine HT.tm 13 rfl hz8 HT.tr ?_;refine HT.tm 16 rfl hz8 HT.tr ?_;refine HT.tm 17 rfl hz8 HT.tr ?_;refine HT.one (i:=14) (by kernel_rfl) rfl (fun K hK=>?_);go_simp;refine (show Calls Tryz.prog 15 #[crV A l.length cA sc pb B os.length cB,.slice A2 S1.length c2,.slice A3 P1.length c3] w8 _ from HO8.out).mono ?_;rintro e w9 ⟨A9,c9,rfl,hL9,hb9⟩;have hz9:=hz8.trans (hb9.mono hz8.size);have HL9:=Hi hL9;have HR9:=Hi (routs w9 (HCd.out.below hz9) sc pb (sC:=c2) (pC:=c3) (HSd.out.below hz9) (HPd.out.below hz9) hSl hPl (by omega));unfold WsP at HR9;clear hL9;(try dsimp only);refine hK.out _ _ hz9 trivial ?_;clear hK K;(try simp only [HT.pS]);refine HT.one (i:=18) (by kernel_rfl) rfl (fun K hK=>?_);go_simp;refine (show Calls Tryz.prog 16 #[crV A l.length cA sc pb B os.length cB,.slice A2 S1.length c2,.slice A3 P1.length c3] w9 _ from HR9.out).mono ?_;rintro e wa ⟨Aa,ca,rfl,hLa,hba⟩;have hza:=hz9.trans (hba.mono hz9.size);have HSB:=Hi (same A9 Aa c9 ca _ wa (HL9.out.below hba) hLa HLO.out);clear hLa;(try dsimp only);refine hK.out _ _ hza trivial ?_;clear hK K;(try simp only [HT.pS]);generalize ouL S1 P1 sc pb l os=us at *;refine HT.one (i:=19) (by kernel_rfl) rfl (fun K hK=>?_);go_simp;refine (show Calls Tryz.prog 12 #[.slice A9 us.length c9,.slice Aa us.length ca] wa _ from HSB.out).mono ?_;rintro e wb ⟨rfl,hbb⟩;have hzb:=hza.trans (hbb.mono hza.size);have HLL:=Hi (HLV.out wb);(try dsimp only);refine hK.out _ _ hzb trivial ?_;clear hK K;(try simp only [HT.pS]);refine HT.tm 20 rfl hzb HT.tr ?_;refine HT.tm 21 rfl hzb HT.tr ?_;refine HT.one (i:=22) (by kernel_rfl) rfl (fun K hK=>?_);go_simp;refine (show Calls Tryz.prog 9 #[] wb _ from HLL.out).mono ?_;rintro e wc ⟨rfl,hbc⟩;have hzc:=hzb.trans (hbc.mono hzb.size);(try dsimp only);refine hK.out _ _ hzc trivial ?_;clear hK K;(try simp only [HT.pS]);refine HT.tm 23 rfl hzc HT.tr ?_;refine HT.tm 24 rfl hzc HT.tr ?_;refine HT.done (by kernel_rfl) ?_;have HEND:=Hi (HBd.out.trans (hzc.mono HBd.out.size));clear hZ0 hb5 hb6 hz6 hb7 hz7 hb8 hz8 hb9 hz9 hba hza hbb hzb hbc hzc;go_wp2_with fail
 go_ret;exact ⟨rfl,HEND.out⟩
end Go.Proofs.YtdhoemlomojfaaaGreatDoor.Ci
namespace Go.Proofs.YtdhoemlomojfaaaGreatDoor.Nm
open Go.ChangeShapes Go.WideShapes Go.ChangeAt Go.RowKit
theorem witRow{H:Type}{enc:TypeId×Value→H}{C:Checked}{os:Os}{f:FuncId}{fn:Func}{s:OpenSpec}{conds:List PathCond}{apart:Bool}{laid:List (String×DataW Unit)}(modest:Bool)(w0:World)(args:Array Value)(hos:w0.os=os)
  (hsh:(w0.forCall (fun _ _=>0) ⟨#[],args,[]⟩).Shaped C.prog)
  (hok:Input.okWideB C.prog (w0.forCall (fun _ _=>0) ⟨#[],args,[]⟩) f ⟨#[],args,[]⟩=true)
  (hrow:s.preRow enc C.prog fn conds apart laid (w0.forCall (fun _ _=>0) ⟨#[],args,[]⟩).memory args) :
  ∃ (w:World) (tape:Tape) (i:Input),w.os=os∧(w.forCall tape i).Shaped C.prog∧i.vars=[]∧Input.okWide C.prog (w.forCall tape i) .any w.heap.size f i ∧
   s.preRow enc C.prog fn conds apart laid (w.forCall tape i).memory i.args∧({ modest:=modest }:Assume).holds C.prog (lone (Frame.enter C.prog f i.args .normal) [] (w.forCall tape i)):=
 ⟨w0,fun _ _=>0,⟨#[],args,[]⟩,hos,hsh,(Input.okWide_of_okWideB (base:=0) hok).1,(Input.okWide_of_okWideB hok).2,hrow,by
  simp only [Assume.holds];exact ⟨by simp,by simp,fun _=>Modest.zero,by simp,by simp⟩⟩
end Go.Proofs.YtdhoemlomojfaaaGreatDoor.Nm
