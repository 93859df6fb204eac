/- DERIVED. PaSs, PaPg, PaDf. By an AI agent. -/
import Derived.Test.YtdhoemlomojfaaaGreatDoorW01
import Derived.Test.YtdhoemlomojfaaaGreatDoorW34
import Derived.Test.YtdhoemlomojfaaaGreatDoorW03
import Derived.Tactics
import Derived.Tactics2
import Derived.Defers
import Derived.Recover
set_option maxRecDepth 100000
set_option maxHeartbeats 8000000
set_option linter.unusedVariables false
set_option linter.unusedSimpArgs false
namespace Go.Proofs.YtdhoemlomojfaaaGreatDoor.Pa
open Go Go.ChangeShapes Go.WideShapes Go.ChangeAt Go.RowKit Lx Args
section
attribute [local go_sem] fTk0 fTk1 fTk2
theorem r_secret{num:Bs→Nat×Nat}{d:Nat}{t:Tk}{r:List Tk}{o:Out}(hs:t.s=[115,101,99,114,101,116])(hk:2 < t.k)(h:InK 6 t.at_ r=some o):Rd num .stmt d (t :: r) o:=by
 refine rd_eq (K:=fun f=>InK 6 t.at_ r) (by rw [h];exact ev_now _) fun f=>?_
 have hi:∀ b,isS b t=(t.s==b):=fun b=>by unfold isS;simp [hk]
 rw [st_];rw [if_pos (show isS [115,101,99,114,101,116] t=true by rw [hi,hs];decide)]
theorem r_public{num:Bs→Nat×Nat}{d:Nat}{t:Tk}{r:List Tk}{o:Out}(hs:t.s=[112,117,98,108,105,99])(hk:2 < t.k)(h:InK 7 t.at_ r=some o):Rd num .stmt d (t :: r) o:=by
 refine rd_eq (K:=fun f=>InK 7 t.at_ r) (by rw [h];exact ev_now _) fun f=>?_
 have hi:∀ b,isS b t=(t.s==b):=fun b=>by unfold isS;simp [hk]
 rw [st_];rw [if_neg (show ¬ isS [115,101,99,114,101,116] t=true by rw [hi,hs];decide)];rw [if_pos (show isS [112,117,98,108,105,99] t=true by rw [hi,hs];decide)]
theorem r_out{num:Bs→Nat×Nat}{d:Nat}{t:Tk}{r:List Tk}{o:Out}(hs:t.s=[111,117,116])(hk:2 < t.k)(h:Ev (fun f=>SetK num f 8 t.at_ d r) o):Rd num .stmt d (t :: r) o:=by
 refine rd_eq (K:=fun f=>SetK num f 8 t.at_ d r) h fun f=>?_
 have hi:∀ b,isS b t=(t.s==b):=fun b=>by unfold isS;simp [hk]
 rw [st_];rw [if_neg (show ¬ isS [115,101,99,114,101,116] t=true by rw [hi,hs];decide)];rw [if_neg (show ¬ isS [112,117,98,108,105,99] t=true by rw [hi,hs];decide)];rw [if_pos (show isS [111,117,116] t=true by rw [hi,hs];decide)]
theorem r_show{num:Bs→Nat×Nat}{d:Nat}{t:Tk}{r:List Tk}{o:Out}(hs:t.s=[115,104,111,119])(hk:2 < t.k)(h:Ev (fun f=>SetK num f 9 t.at_ d r) o):Rd num .stmt d (t :: r) o:=by
 refine rd_eq (K:=fun f=>SetK num f 9 t.at_ d r) h fun f=>?_
 have hi:∀ b,isS b t=(t.s==b):=fun b=>by unfold isS;simp [hk]
 rw [st_];rw [if_neg (show ¬ isS [115,101,99,114,101,116] t=true by rw [hi,hs];decide)];rw [if_neg (show ¬ isS [112,117,98,108,105,99] t=true by rw [hi,hs];decide)];rw [if_neg (show ¬ isS [111,117,116] t=true by rw [hi,hs];decide)];rw [if_pos (show isS [115,104,111,119] t=true by rw [hi,hs];decide)]
theorem r_fn{num:Bs→Nat×Nat}{d:Nat}{t:Tk}{r:List Tk}{o:Out}(hs:t.s=[102,110])(hk:2 < t.k)(h:Ev (fun f=>FnK num f t.at_ d r) o):Rd num .stmt d (t :: r) o:=by
 refine rd_eq (K:=fun f=>FnK num f t.at_ d r) h fun f=>?_
 have hi:∀ b,isS b t=(t.s==b):=fun b=>by unfold isS;simp [hk]
 rw [st_];rw [if_neg (show ¬ isS [115,101,99,114,101,116] t=true by rw [hi,hs];decide)];rw [if_neg (show ¬ isS [112,117,98,108,105,99] t=true by rw [hi,hs];decide)];rw [if_neg (show ¬ isS [111,117,116] t=true by rw [hi,hs];decide)];rw [if_neg (show ¬ isS [115,104,111,119] t=true by rw [hi,hs];decide)];rw [if_pos (show isS [102,110] t=true by rw [hi,hs];decide)]
theorem r_other{num:Bs→Nat×Nat}{d:Nat}{t:Tk}{r:List Tk}{o:Out}(h0:isS [115,101,99,114,101,116] t=false)(h1:isS [112,117,98,108,105,99] t=false)(h2:isS [111,117,116] t=false)(h3:isS [115,104,111,119] t=false)(h4:isS [102,110] t=false)(h:Rd num .inner 0 (t :: r) o):Rd num .stmt d (t :: r) o:=
 rd_eq h fun f=>by
  rw [st_,if_neg (by rw [h0];decide),if_neg (by rw [h1];decide),if_neg (by rw [h2];decide),if_neg (by rw [h3];decide),if_neg (by rw [h4];decide)]
theorem st_secret(w:World)(bp:Nat)(t:Tk)(r:List Tk)(hp:PS w bp (t :: r) 0)(hg:Gt (t :: r))(hs:t.s=[115,101,99,114,101,116]) :
  Calls Tryz.prog 71 #[.pointer (some ⟨bp,0,none⟩)] w (OutP w bp 0 (t :: r) (Rd numV .stmt 0 (t :: r))):=by
 have hlt:=hp.lt;obtain ⟨w0,hw0⟩:∃ w0,w.alloc (.cells #[.int .i64 0,.string ⟨#[]⟩,.int .u32 0,.int .i64 0,.slice none 0 0,.slice none 0 0] 62)=w0:=⟨_,rfl⟩;have hb0:Below w.heap.size w w0:=by rw [←hw0];exact (Below.refl _ _).alloc (Nat.le_refl _) _
 have hB:Blk w0 w.heap.size 62 #[.int .i64 0,.string ⟨#[]⟩,.int .u32 0,.int .i64 0,.slice none 0 0,.slice none 0 0]:=by rw [←hw0];exact Blk.new _ _ _
 have hk:2 < t.k:=okt_lit hg.hd (by rw [hs];decide);have hn:=next w0 bp 0 t r (hp.below hb0);rw [hs] at hn;have HN:=Hi hn;have HSE:=Hi fun (w':World) (hb:Below w0.heap.size w0 w')=>(show Calls Tryz.prog 84 #[.pointer (some ⟨bp,0,none⟩),.int .i64 6] w' _ from inputs 6 w' bp 0 t r ((hp.below hb0).below hb) hg (by omega))
 have HU0:=Hi (below_UB (bp:=bp) hb0);have HB:=Hi hB;have HW:=Hi hw0;have hlb:=hB.lt;clear hb0 hp hw0 hB hg hn;go_enter Tryz.func71,Tryz.ntmps71;go_wp2_with fail
 rw [HW.out];refine HN.out.mono ?_;rintro e w1 ⟨rfl,hb1⟩;have HL1:=Hi (HSE.out w1 hb1);have HU1:=Hi (HU0.out.trans (below_UB hb1));have HX1:=Hi (HB.out.below hb1 HB.out.lt);have h01:=hb1.size;clear hb1 HSE;go_wp2_with fail
 refine HL1.out.mono ?_;rintro e w2 (⟨k,a,s,m,A,la,cA,B,lb,cB,x,r',rfl,hT,hR,hP,hG,hr,hU⟩ | ⟨a,er,rfl,hR,hU⟩)
 ·have hX:=HX1.out.upd hU (show ¬ w.heap.size=bp by omega);obtain ⟨⟨e0,e1,e2,e3,e4,e5⟩,z0,z1,z2,z3,z4,z5⟩:=Blk.c6 hX;have HX:=Hi hX;have HT:=Hi hT;have HR:=Hi (r_secret (num:=numV) (d:=0) hs hk hR);have HP:=Hi hP;have HG:=Hi hG;have HU:=Hi (HU1.out.trans hU);clear hX hT hR hP hG hU;go_wp2_with fail
  exact bodyPost_ret (resNd rfl rfl (Blk.put6 HX.out _ _ _ _ _ _) rfl) rfl (out_ok hlt (by omega) HT.out HR.out HP.out HG.out hr HU.out)
 ·have HR:=Hi (r_secret (num:=numV) (d:=0) hs hk hR);have HU:=Hi (HU1.out.trans hU);clear hR hU;go_wp2_with fail
  exact ⟨rfl,.inr ⟨_,_,rfl,HR.out,HU.out⟩⟩
theorem st_public(w:World)(bp:Nat)(t:Tk)(r:List Tk)(hp:PS w bp (t :: r) 0)(hg:Gt (t :: r))(hs:t.s=[112,117,98,108,105,99]) :
  Calls Tryz.prog 71 #[.pointer (some ⟨bp,0,none⟩)] w (OutP w bp 0 (t :: r) (Rd numV .stmt 0 (t :: r))):=by
 have hlt:=hp.lt;obtain ⟨w0,hw0⟩:∃ w0,w.alloc (.cells #[.int .i64 0,.string ⟨#[]⟩,.int .u32 0,.int .i64 0,.slice none 0 0,.slice none 0 0] 62)=w0:=⟨_,rfl⟩;have hb0:Below w.heap.size w w0:=by rw [←hw0];exact (Below.refl _ _).alloc (Nat.le_refl _) _
 have hB:Blk w0 w.heap.size 62 #[.int .i64 0,.string ⟨#[]⟩,.int .u32 0,.int .i64 0,.slice none 0 0,.slice none 0 0]:=by rw [←hw0];exact Blk.new _ _ _
 have hk:2 < t.k:=okt_lit hg.hd (by rw [hs];decide);have hn:=next w0 bp 0 t r (hp.below hb0);rw [hs] at hn;have HN:=Hi hn;have HSE:=Hi fun (w':World) (hb:Below w0.heap.size w0 w')=>(show Calls Tryz.prog 84 #[.pointer (some ⟨bp,0,none⟩),.int .i64 7] w' _ from inputs 7 w' bp 0 t r ((hp.below hb0).below hb) hg (by omega))
 have HU0:=Hi (below_UB (bp:=bp) hb0);have HB:=Hi hB;have HW:=Hi hw0;have hlb:=hB.lt;clear hb0 hp hw0 hB hg hn;go_enter Tryz.func71,Tryz.ntmps71;go_wp2_with fail
 rw [HW.out];refine HN.out.mono ?_;rintro e w1 ⟨rfl,hb1⟩;have HL1:=Hi (HSE.out w1 hb1);have HU1:=Hi (HU0.out.trans (below_UB hb1));have HX1:=Hi (HB.out.below hb1 HB.out.lt);have h01:=hb1.size;clear hb1 HSE;go_wp2_with fail
 refine HL1.out.mono ?_;rintro e w2 (⟨k,a,s,m,A,la,cA,B,lb,cB,x,r',rfl,hT,hR,hP,hG,hr,hU⟩ | ⟨a,er,rfl,hR,hU⟩)
 ·have hX:=HX1.out.upd hU (show ¬ w.heap.size=bp by omega);obtain ⟨⟨e0,e1,e2,e3,e4,e5⟩,z0,z1,z2,z3,z4,z5⟩:=Blk.c6 hX;have HX:=Hi hX;have HT:=Hi hT;have HR:=Hi (r_public (num:=numV) (d:=0) hs hk hR);have HP:=Hi hP;have HG:=Hi hG;have HU:=Hi (HU1.out.trans hU);clear hX hT hR hP hG hU;go_wp2_with fail
  exact bodyPost_ret (resNd rfl rfl (Blk.put6 HX.out _ _ _ _ _ _) rfl) rfl (out_ok hlt (by omega) HT.out HR.out HP.out HG.out hr HU.out)
 ·have HR:=Hi (r_public (num:=numV) (d:=0) hs hk hR);have HU:=Hi (HU1.out.trans hU);clear hR hU;go_wp2_with fail
  exact ⟨rfl,.inr ⟨_,_,rfl,HR.out,HU.out⟩⟩
theorem st_out(w:World)(bp:Nat)(t:Tk)(r:List Tk)(hp:PS w bp (t :: r) 0)(hg:Gt (t :: r))(hs:t.s=[111,117,116]) :
  Calls Tryz.prog 71 #[.pointer (some ⟨bp,0,none⟩)] w (OutP w bp 0 (t :: r) (Rd numV .stmt 0 (t :: r))):=by
 have hlt:=hp.lt;obtain ⟨w0,hw0⟩:∃ w0,w.alloc (.cells #[.int .i64 0,.string ⟨#[]⟩,.int .u32 0,.int .i64 0,.slice none 0 0,.slice none 0 0] 62)=w0:=⟨_,rfl⟩;have hb0:Below w.heap.size w w0:=by rw [←hw0];exact (Below.refl _ _).alloc (Nat.le_refl _) _
 have hB:Blk w0 w.heap.size 62 #[.int .i64 0,.string ⟨#[]⟩,.int .u32 0,.int .i64 0,.slice none 0 0,.slice none 0 0]:=by rw [←hw0];exact Blk.new _ _ _
 have hk:2 < t.k:=okt_lit hg.hd (by rw [hs];decide);have hn:=next w0 bp 0 t r (hp.below hb0);rw [hs] at hn;have HN:=Hi hn;have hgr:=hg.tail (by omega);obtain ⟨t2,r2,hr2⟩:=hgr.cons;have htk:=fun (w':World) (hb:Below w0.heap.size w0 w')=>take w' bp 0 t r ((hp.below hb0).below hb) (by rw [hr2];simp)
 have HTK:=Hi htk;have HSE:=Hi fun (w':World) (h:PS w' bp r 0)=>(show Calls Tryz.prog 85 #[.pointer (some ⟨bp,0,none⟩),.int .i64 8,.int .i64 (t.at_:Int)] w' _ from set 8 t.at_ w' bp 0 r (by omega) h hgr)
 have HU0:=Hi (below_UB (bp:=bp) hb0);have HB:=Hi hB;have HW:=Hi hw0;have hlb:=hB.lt;clear hb0 hp hw0 hB hg hn htk hgr hr2;go_enter Tryz.func71,Tryz.ntmps71;go_wp2_with fail
 rw [HW.out];refine HN.out.mono ?_;rintro e wx ⟨rfl,hbx⟩;have HT1:=Hi (HTK.out wx hbx);have HUx:=Hi (HU0.out.trans (below_UB hbx));have HXx:=Hi (HB.out.below hbx HB.out.lt);have h0x:=hbx.size;clear hbx HTK;go_wp2_with fail
 refine HT1.out.mono ?_;rintro e w1 ⟨rfl,hp1,hu1⟩;have HL1:=Hi (HSE.out w1 hp1);have HU1:=Hi (HUx.out.trans hu1);have HX1:=Hi (HXx.out.upd hu1 (by omega));have h01:=hu1.size;clear hp1 hu1 HSE;go_wp2_with fail
 refine HL1.out.mono ?_;rintro e w2 (⟨k,a,s,m,A,la,cA,B,lb,cB,x,r',rfl,hT,hR,hP,hG,hr,hU⟩ | ⟨a,er,rfl,hR,hU⟩)
 ·have hX:=HX1.out.upd hU (show ¬ w.heap.size=bp by omega);obtain ⟨⟨e0,e1,e2,e3,e4,e5⟩,z0,z1,z2,z3,z4,z5⟩:=Blk.c6 hX;have HX:=Hi hX;have HT:=Hi hT;have HR:=Hi (r_out (num:=numV) (d:=0) hs hk hR);have HP:=Hi hP;have HG:=Hi hG;have HU:=Hi (HU1.out.trans hU);clear hX hT hR hP hG hU;go_wp2_with fail
  exact bodyPost_ret (resNd rfl rfl (Blk.put6 HX.out _ _ _ _ _ _) rfl) rfl (out_ok hlt (by omega) HT.out HR.out HP.out HG.out (by simp only [List.length_cons];omega) HU.out)
 ·have HR:=Hi (r_out (num:=numV) (d:=0) hs hk hR);have HU:=Hi (HU1.out.trans hU);clear hR hU;go_wp2_with fail
  exact ⟨rfl,.inr ⟨_,_,rfl,HR.out,HU.out⟩⟩
theorem st_show(w:World)(bp:Nat)(t:Tk)(r:List Tk)(hp:PS w bp (t :: r) 0)(hg:Gt (t :: r))(hs:t.s=[115,104,111,119]) :
  Calls Tryz.prog 71 #[.pointer (some ⟨bp,0,none⟩)] w (OutP w bp 0 (t :: r) (Rd numV .stmt 0 (t :: r))):=by
 have hlt:=hp.lt;obtain ⟨w0,hw0⟩:∃ w0,w.alloc (.cells #[.int .i64 0,.string ⟨#[]⟩,.int .u32 0,.int .i64 0,.slice none 0 0,.slice none 0 0] 62)=w0:=⟨_,rfl⟩;have hb0:Below w.heap.size w w0:=by rw [←hw0];exact (Below.refl _ _).alloc (Nat.le_refl _) _
 have hB:Blk w0 w.heap.size 62 #[.int .i64 0,.string ⟨#[]⟩,.int .u32 0,.int .i64 0,.slice none 0 0,.slice none 0 0]:=by rw [←hw0];exact Blk.new _ _ _
 have hk:2 < t.k:=okt_lit hg.hd (by rw [hs];decide);have hn:=next w0 bp 0 t r (hp.below hb0);rw [hs] at hn;have HN:=Hi hn;have hgr:=hg.tail (by omega);obtain ⟨t2,r2,hr2⟩:=hgr.cons;have htk:=fun (w':World) (hb:Below w0.heap.size w0 w')=>take w' bp 0 t r ((hp.below hb0).below hb) (by rw [hr2];simp)
 have HTK:=Hi htk;have HSE:=Hi fun (w':World) (h:PS w' bp r 0)=>(show Calls Tryz.prog 85 #[.pointer (some ⟨bp,0,none⟩),.int .i64 9,.int .i64 (t.at_:Int)] w' _ from set 9 t.at_ w' bp 0 r (by omega) h hgr)
 have HU0:=Hi (below_UB (bp:=bp) hb0);have HB:=Hi hB;have HW:=Hi hw0;have hlb:=hB.lt;clear hb0 hp hw0 hB hg hn htk hgr hr2;go_enter Tryz.func71,Tryz.ntmps71;go_wp2_with fail
 rw [HW.out];refine HN.out.mono ?_;rintro e wx ⟨rfl,hbx⟩;have HT1:=Hi (HTK.out wx hbx);have HUx:=Hi (HU0.out.trans (below_UB hbx));have HXx:=Hi (HB.out.below hbx HB.out.lt);have h0x:=hbx.size;clear hbx HTK;go_wp2_with fail
 refine HT1.out.mono ?_;rintro e w1 ⟨rfl,hp1,hu1⟩;have HL1:=Hi (HSE.out w1 hp1);have HU1:=Hi (HUx.out.trans hu1);have HX1:=Hi (HXx.out.upd hu1 (by omega));have h01:=hu1.size;clear hp1 hu1 HSE;go_wp2_with fail
 refine HL1.out.mono ?_;rintro e w2 (⟨k,a,s,m,A,la,cA,B,lb,cB,x,r',rfl,hT,hR,hP,hG,hr,hU⟩ | ⟨a,er,rfl,hR,hU⟩)
 ·have hX:=HX1.out.upd hU (show ¬ w.heap.size=bp by omega);obtain ⟨⟨e0,e1,e2,e3,e4,e5⟩,z0,z1,z2,z3,z4,z5⟩:=Blk.c6 hX;have HX:=Hi hX;have HT:=Hi hT;have HR:=Hi (r_show (num:=numV) (d:=0) hs hk hR);have HP:=Hi hP;have HG:=Hi hG;have HU:=Hi (HU1.out.trans hU);clear hX hT hR hP hG hU;go_wp2_with fail
  exact bodyPost_ret (resNd rfl rfl (Blk.put6 HX.out _ _ _ _ _ _) rfl) rfl (out_ok hlt (by omega) HT.out HR.out HP.out HG.out (by simp only [List.length_cons];omega) HU.out)
 ·have HR:=Hi (r_show (num:=numV) (d:=0) hs hk hR);have HU:=Hi (HU1.out.trans hU);clear hR hU;go_wp2_with fail
  exact ⟨rfl,.inr ⟨_,_,rfl,HR.out,HU.out⟩⟩
theorem st_fn(w:World)(bp:Nat)(t:Tk)(r:List Tk)(hp:PS w bp (t :: r) 0)(hg:Gt (t :: r))(hs:t.s=[102,110]) :
  Calls Tryz.prog 71 #[.pointer (some ⟨bp,0,none⟩)] w (OutP w bp 0 (t :: r) (Rd numV .stmt 0 (t :: r))):=by
 have hlt:=hp.lt;obtain ⟨w0,hw0⟩:∃ w0,w.alloc (.cells #[.int .i64 0,.string ⟨#[]⟩,.int .u32 0,.int .i64 0,.slice none 0 0,.slice none 0 0] 62)=w0:=⟨_,rfl⟩;have hb0:Below w.heap.size w w0:=by rw [←hw0];exact (Below.refl _ _).alloc (Nat.le_refl _) _
 have hB:Blk w0 w.heap.size 62 #[.int .i64 0,.string ⟨#[]⟩,.int .u32 0,.int .i64 0,.slice none 0 0,.slice none 0 0]:=by rw [←hw0];exact Blk.new _ _ _
 have hk:2 < t.k:=okt_lit hg.hd (by rw [hs];decide);have hn:=next w0 bp 0 t r (hp.below hb0);rw [hs] at hn;have HN:=Hi hn;have HSE:=Hi fun (w':World) (hb:Below w0.heap.size w0 w')=>function w' bp 0 t r (by omega) ((hp.below hb0).below hb) hg (by rw [isS_eq hg.hd (by decide),hs];decide)
 have HU0:=Hi (below_UB (bp:=bp) hb0);have HB:=Hi hB;have HW:=Hi hw0;have hlb:=hB.lt;clear hb0 hp hw0 hB hg hn;go_enter Tryz.func71,Tryz.ntmps71;go_wp2_with fail
 rw [HW.out];refine HN.out.mono ?_;rintro e w1 ⟨rfl,hb1⟩;have HL1:=Hi (HSE.out w1 hb1);have HU1:=Hi (HU0.out.trans (below_UB hb1));have HX1:=Hi (HB.out.below hb1 HB.out.lt);have h01:=hb1.size;clear hb1 HSE;go_wp2_with fail
 refine HL1.out.mono ?_;rintro e w2 (⟨k,a,s,m,A,la,cA,B,lb,cB,x,r',rfl,hT,hR,hP,hG,hr,hU⟩ | ⟨a,er,rfl,hR,hU⟩)
 ·have hX:=HX1.out.upd hU (show ¬ w.heap.size=bp by omega);obtain ⟨⟨e0,e1,e2,e3,e4,e5⟩,z0,z1,z2,z3,z4,z5⟩:=Blk.c6 hX;have HX:=Hi hX;have HT:=Hi hT;have HR:=Hi (r_fn (num:=numV) (d:=0) hs hk hR);have HP:=Hi hP;have HG:=Hi hG;have HU:=Hi (HU1.out.trans hU);clear hX hT hR hP hG hU;go_wp2_with fail
  exact bodyPost_ret (resNd rfl rfl (Blk.put6 HX.out _ _ _ _ _ _) rfl) rfl (out_ok hlt (by omega) HT.out HR.out HP.out HG.out hr HU.out)
 ·have HR:=Hi (r_fn (num:=numV) (d:=0) hs hk hR);have HU:=Hi (HU1.out.trans hU);clear hR hU;go_wp2_with fail
  exact ⟨rfl,.inr ⟨_,_,rfl,HR.out,HU.out⟩⟩
theorem st_other(w:World)(bp:Nat)(t:Tk)(r:List Tk)(hp:PS w bp (t :: r) 0)(hg:Gt (t :: r))(h0:isS [115,101,99,114,101,116] t=false)(h1:isS [112,117,98,108,105,99] t=false)(h2:isS [111,117,116] t=false)(h3:isS [115,104,111,119] t=false)(h4:isS [102,110] t=false) :
  Calls Tryz.prog 71 #[.pointer (some ⟨bp,0,none⟩)] w (OutP w bp 0 (t :: r) (Rd numV .stmt 0 (t :: r))):=by
 have hlt:=hp.lt;obtain ⟨w0,hw0⟩:∃ w0,w.alloc (.cells #[.int .i64 0,.string ⟨#[]⟩,.int .u32 0,.int .i64 0,.slice none 0 0,.slice none 0 0] 62)=w0:=⟨_,rfl⟩;have hb0:Below w.heap.size w w0:=by rw [←hw0];exact (Below.refl _ _).alloc (Nat.le_refl _) _
 have hB:Blk w0 w.heap.size 62 #[.int .i64 0,.string ⟨#[]⟩,.int .u32 0,.int .i64 0,.slice none 0 0,.slice none 0 0]:=by rw [←hw0];exact Blk.new _ _ _
 have hq0:=h0;have hq1:=h1;have hq2:=h2;have hq3:=h3;have hq4:=h4;rw [isS_eq hg.hd (by decide)] at hq0 hq1 hq2 hq3 hq4;have HN:=Hi (next w0 bp 0 t r (hp.below hb0));have HHS:=Hi (show isS [115,101,99,114,101,116] t=false∧isS [112,117,98,108,105,99] t=false∧isS [111,117,116] t=false∧isS [115,104,111,119] t=false∧isS [102,110] t=false from ⟨h0,h1,h2,h3,h4⟩);have HSE:=Hi fun (w':World) (hb:Below w0.heap.size w0 w')=>inn (t :: r).length w' bp 0 (t :: r) (Nat.le_refl _) (by omega) ((hp.below hb0).below hb) hg
 have HU0:=Hi (below_UB (bp:=bp) hb0);have HB:=Hi hB;have HW:=Hi hw0;have hlb:=hB.lt;clear hb0 hp hw0 hB hg h0 h1 h2 h3 h4;go_enter Tryz.func71,Tryz.ntmps71;go_wp2_with fail
 rw [HW.out];refine HN.out.mono ?_;rintro e w1 ⟨rfl,hb1⟩;have HL1:=Hi (HSE.out w1 hb1);have HU1:=Hi (HU0.out.trans (below_UB hb1));have HX1:=Hi (HB.out.below hb1 HB.out.lt);have h01:=hb1.size;clear hb1 HSE;go_wp2_with fail
 refine HL1.out.mono ?_;rintro e w2 (⟨k,a,s,m,A,la,cA,B,lb,cB,x,r',rfl,hT,hR,hP,hG,hr,hU⟩ | ⟨a,er,rfl,hR,hU⟩)
 ·have hX:=HX1.out.upd hU (show ¬ w.heap.size=bp by omega);obtain ⟨⟨e0,e1,e2,e3,e4,e5⟩,z0,z1,z2,z3,z4,z5⟩:=Blk.c6 hX;have HX:=Hi hX;have HT:=Hi hT;have HR:=Hi (r_other (num:=numV) (d:=0) HHS.out.1 HHS.out.2.1 HHS.out.2.2.1 HHS.out.2.2.2.1 HHS.out.2.2.2.2 hR);have HP:=Hi hP;have HG:=Hi hG;have HU:=Hi (HU1.out.trans hU);clear hX hT hR hP hG hU;go_wp2_with fail
  exact bodyPost_ret (resNd rfl rfl (Blk.put6 HX.out _ _ _ _ _ _) rfl) rfl (out_ok hlt (by omega) HT.out HR.out HP.out HG.out hr HU.out)
 ·have HR:=Hi (r_other (num:=numV) (d:=0) HHS.out.1 HHS.out.2.1 HHS.out.2.2.1 HHS.out.2.2.2.1 HHS.out.2.2.2.2 hR);have HU:=Hi (HU1.out.trans hU);clear hR hU;go_wp2_with fail
  exact ⟨rfl,.inr ⟨_,_,rfl,HR.out,HU.out⟩⟩
theorem statement(w:World)(bp:Nat)(t:Tk)(r:List Tk)(hp:PS w bp (t :: r) 0)(hg:Gt (t :: r)) :
  Calls Tryz.prog 71 #[.pointer (some ⟨bp,0,none⟩)] w (OutP w bp 0 (t :: r) (Rd numV .stmt 0 (t :: r))):=by
 by_cases h0:t.s=[115,101,99,114,101,116]
 ·exact st_secret w bp t r hp hg h0
 by_cases h1:t.s=[112,117,98,108,105,99]
 ·exact st_public w bp t r hp hg h1
 by_cases h2:t.s=[111,117,116]
 ·exact st_out w bp t r hp hg h2
 by_cases h3:t.s=[115,104,111,119]
 ·exact st_show w bp t r hp hg h3
 by_cases h4:t.s=[102,110]
 ·exact st_fn w bp t r hp hg h4
 have hi:∀ b,t.s≠b→isS b t=false:=fun b h=>by unfold isS;simp [h]
 exact st_other w bp t r hp hg (hi _ h0) (hi _ h1) (hi _ h2) (hi _ h3) (hi _ h4)
end
section
attribute [local go_sem] fTk0 fTk1 fTk2
theorem ArrT.none(e:TypeId){lo:Nat}(w1:World)(hlo:lo≤w1.heap.size):ArrT e lo (w1.alloc (.cells #[] e)) w1.heap.size 0 []:=
 ⟨[],own_full w1 hlo e 6 0 [] rfl (by decide),by unfold TsIn;rfl⟩
def hdA:List Tk→Nat
 | []=>0
 | t :: _=>t.at_
def ProgR(l:List Tk):Out→Prop
 | .ok xs r=>∃ zs,xs=[.mk 13 (hdA l) [] 0 [] zs]∧Rd numV (.stmts []) 0 l (.ok zs r)∧∃ e r',r=e :: r'∧e.k = 0
 | .bad a e=>Rd numV (.stmts []) 0 l (.bad a e)
abbrev tX:Tk:=⟨0,[],0⟩
structure PgI(w:World)(bp:Nat)(l:List Tk)(zs:List Tr)(l':List Tk)(g c:Nat)(W:World):Prop where
 rd:∀ o,Rd numV (.stmts zs) 0 l' o→Rd numV (.stmts []) 0 l o
 ps:PS W bp l' 0
 gt:Gt l'
 lt:l'.length≤l.length
 arr:ArrT 62 (w.heap.size+1) W g c zs
 few:zs.length+l'.length≤4000
 ub:UB bp w W
 res:Blk W w.heap.size 62 #[.int .i64 0,.string ⟨#[]⟩,.int .u32 0,.int .i64 0,.slice none 0 0,.slice none 0 0]
theorem program(w:World)(bp:Nat)(l:List Tk)(hp:PS w bp l 0)(hg:Gt l) :
  Calls Tryz.prog 56 #[.pointer (some ⟨bp,0,none⟩)] w (OutP w bp 0 (tX :: l) (ProgR l)):=by
 have hlt:=hp.lt;have hfw:=hg.few;obtain ⟨i0,hi,hz⟩:=Option.map_eq_some_iff.1 infoNd;have hz0:=congrArg (·.1) hz;have hz1:=congrArg (·.2.1) hz;have hz2:=congrArg (·.2.2) hz;have HI:=Hi hi;have HZ0:=Hi hz0;have HZ1:=Hi hz1;have HZ2:=Hi hz2;clear hi hz hz0 hz1 hz2;obtain ⟨t,r,rfl⟩:=hg.cons;obtain ⟨w0,hw0⟩:∃ w0,w.alloc (.cells #[.int .i64 0,.string ⟨#[]⟩,.int .u32 0,.int .i64 0,.slice none 0 0,.slice none 0 0] 62)=w0:=⟨_,rfl⟩;have hb0:Below w.heap.size w w0:=by rw [←hw0];exact (Below.refl _ _).alloc (Nat.le_refl _) _
 have hB:Blk w0 w.heap.size 62 #[.int .i64 0,.string ⟨#[]⟩,.int .u32 0,.int .i64 0,.slice none 0 0,.slice none 0 0]:=by rw [←hw0];exact Blk.new _ _ _
 have HN:=Hi (next w0 bp 0 t r (hp.below hb0));have HP0:=Hi (hp.below hb0);have HG:=Hi hg;have HU0:=Hi (below_UB (bp:=bp) hb0);have HB:=Hi hB;have HW:=Hi hw0;have hlb:=hB.lt;clear hb0 hp hw0 hB hg;go_enter Tryz.func56,Tryz.ntmps56;go_wp2_with fail
 rw [HW.out];refine HN.out.mono ?_;rintro e w1 ⟨rfl,hb1⟩;have h01:=hb1.size;have HJ:Hid (PgI w bp (t :: r) [] (t :: r) w1.heap.size 0 (w1.alloc (.cells #[] 62))):=Hi ⟨fun o h=>h,(HP0.out.below hb1).below ((Below.refl _ _).alloc (Nat.le_refl _) _),HG.out,Nat.le_refl _,ArrT.none 62 w1 (by omega),by simpa using hfw,(HU0.out.trans (below_UB hb1)).alloc _,(HB.out.below hb1 HB.out.lt).alloc _⟩;clear hb1 HN HP0;go_wp2_with fail
 go_loopw [4] (fun vl wr=>∃ zs l' g c,vl = .slice (some ⟨g,0,none⟩) zs.length c∧Hid (PgI w bp (t :: r) zs l' g c wr)) (fun _ wr=>lenAt wr bp)
 case atStart=>exact ⟨[],t :: r,_,_,rfl,HJ⟩
 case round=>
  clear HJ;obtain ⟨zs,l',g,c,rfl,HH⟩:=hrel;obtain ⟨t',r',rfl⟩:=HH.out.gt.cons;have HNX:=Hi (next wr bp 0 t' r' HH.out.ps);by_cases hk:t'.k = 0
  ·have hq:((t'.k:Int) != 0)=false:=by simp;omega
   go_wp2_with fail
   refine HNX.out.mono ?_;rintro e w2 ⟨rfl,hb2⟩;have HNO:=Hi (show Calls Tryz.prog 72 #[.int .i64 13,.string ⟨#[]⟩,.int .i64 (t.at_:Int),.slice (some ⟨g,0,none⟩) zs.length c] w2 _ from node w2 13 t.at_ [] (some ⟨g,0,none⟩) zs.length c);have HB2:=Hi hb2;clear hb2 HNX;go_wp2_with fail
   refine HNO.out.mono ?_;rintro e w3 ⟨rfl,hb3⟩;have hb3':=HB2.out.trans (hb3.mono HB2.out.size);have hX:=HH.out.res.below hb3' HH.out.res.lt;obtain ⟨⟨e0,e1,e2,e3,e4,e5⟩,z0,z1,z2,z3,z4,z5⟩:=Blk.c6 hX;have HX3:=Hi hX;have HB3:=Hi hb3';clear hX hb3 hb3';have hfz:=HH.out.few;have hle:=HH.out.lt;simp only [List.length_cons] at hfz hle;have HT3:=Hi (TIn.far (HH.out.arr.node (by omega) 13 t.at_ 0 []) (Upd.of_below HB3.out fun _=>False) (fun _ h=>h.elim));go_wp2_with fail
   exact bodyPost_ret (resNd rfl rfl (Blk.put6 HX3.out _ _ _ _ _ _) rfl) rfl (out_ok hlt (Nat.lt_succ_self _) HT3.out (show ProgR (t :: r) (.ok [.mk 13 t.at_ [] 0 [] zs] (t' :: r')) from ⟨zs,rfl,HH.out.rd _ (r_stmts_end hk),t',r',rfl,hk⟩) (HH.out.ps.below HB3.out) HH.out.gt (by simp only [List.length_cons];omega) (HH.out.ub.trans (below_UB HB3.out)))
  ·have hq:((t'.k:Int) != 0)=true:=by simp;omega
   have HST:=Hi fun (w':World) (hb:Below wr.heap.size wr w')=>statement w' bp t' r' (HH.out.ps.below hb) HH.out.gt
   go_wp2_with fail
   refine HNX.out.mono ?_;rintro e w10 ⟨rfl,hb10⟩;have HW10:=Hi (HST.out w10 hb10);have HB10:=Hi hb10;clear hb10 HST HNX;go_wp2_with fail
   refine HW10.out.mono ?_;rintro e w11 (⟨k',a',s',m',A2,la2,cA2,B2,lb2,cB2,x',r11,rfl,hT,hR,hP,hG,hr,hU⟩ | ⟨a',er,rfl,hR,hU⟩);rotate_left
   ·have HR:=Hi (HH.out.rd _ (r_stmts_bad hk hR));have HU11:=Hi ((HH.out.ub.trans (below_UB HB10.out)).trans hU);clear hR hU;go_wp2_with fail
    exact ⟨rfl,.inr ⟨_,_,rfl,HR.out,HU11.out⟩⟩
   obtain ⟨css,how,hts⟩:=HH.out.arr;have hu11:UB bp wr w11:=(below_UB HB10.out).trans hU;have hT11:TIn (fun b=>wr.heap.size≤b) w11 x' (ndC k' a' s' m' A2 la2 cA2 B2 lb2 cB2):=hT.up HB10.out.size;have HOA:=Hi (World.ownsRow.alloc (own_upd3 how hu11 (by have:=(own_at how).1;omega)) (.cells #[.int .i64 (k':Int),.string ⟨s'.toArray⟩,.int .u32 (m':Int),.int .i64 (a':Int),.slice A2 la2 cA2,.slice B2 lb2 cB2] 62));have HLI:=Hi (lies_full w11 62 (ndC k' a' s' m' A2 la2 cA2 B2 lb2 cB2));have hsz:w.heap.size+1≤w11.heap.size:=by have:=HH.out.res.lt;have:=hu11.size;omega
   have HBS:=Hi (show w.heap.size+1≤(w11.alloc (.cells #[.int .i64 (k':Int),.string ⟨s'.toArray⟩,.int .u32 (m':Int),.int .i64 (a':Int),.slice A2 la2 cA2,.slice B2 lb2 cB2] 62)).heap.size by simp;omega);have hfew:=HH.out.few;have hle:=HH.out.lt;simp only [List.length_cons] at hfew hle hr;have HOW:=Hi how;have HTS:=Hi hts;have HU11:=Hi hu11;have HT11:=Hi hT11;have HR11:=Hi hR;have HP11:=Hi hP;have HG11:=Hi hG;clear how hts hu11 hT11 hT hR hP hG hU hsz;go_wp2_with (at_builtin;refine wpList_where rfl _ _ 59 rfl (w.heap.size+1) 62 i0 (.agg #[.int .i64 0,.string ⟨#[]⟩,.int .u32 0,.int .i64 0,.slice none 0 0,.slice none 0 0]) 6 88 Tryz.underlying59 HI.out HZ0.out HZ1.out HZ2.out rfl (by decide) _ zs.length _ rfl HOA.out ⟨w11.heap.size,0,none⟩ 1 1 (ndC k' a' s' m' A2 la2 cA2 B2 lb2 cB2) rfl rfl HLI.out (by simp [ndC,Value.oneCell']) (by unfold maxLen;omega) (by omega) HBS.out (by decide) ?_;intro g8 c8 w12 hE;have HE8:=Hi hE;clear hE)
   have HSP:=Hi (arr_step HOW.out HTS.out (by omega) HU11.out HT11.out HE8.out);have hgw:=(own_at HOW.out).1;have HJ8:Hid (PgI w bp (t :: r) (zs ++ [x']) r11 g8 c8 w12):=Hi ⟨fun o h=>HH.out.rd o (r_stmts hk HR11.out h),HP11.out.far HSP.out.2.2 fun b hb=>by omega,HG11.out,by simp only [List.length_cons];omega,HSP.out.1,by simp;omega,HSP.out.2.1 w (by omega) HH.out.ub,(HH.out.res.upd HU11.out (by omega)).upd HSP.out.2.2 (by omega)⟩
   go_roundw
   case rel=>exact ⟨zs ++ [x'],r11,g8,c8,by rw [List.length_append];rfl,HJ8⟩
   case measure=>
    rw [PS.len HJ8.out.ps,PS.len HH.out.ps];simp only [List.length_cons];omega
end
section
attribute [local go_sem] fTk0 fTk1 fTk2
theorem catch_idle(p q s:Addr)(w:World) :
  CallsD Tryz.prog 68 #[.pointer (some p),.pointer (some q),.pointer (some s)] .returning w fun e u' w'=>e = .returned (.tuple #[])∧u' = .returning∧w'=w:=by
 have hnil:∀ w:World,(binOp BinOp.neq 20 .nilIface .nilIface).run Tryz.prog w = .ok (.bool false) w:=fun _=>by kernel_rfl
 refine callsD_of_wpS Tryz.func68 rfl fun c₀ cs hu=>?_
 apply wpS_seq;apply wpS_region;simp [wpOpsS,go_sem,recoverD,hu,Tryz.ntmps68,Exit.thenS];refine wpS_of_wp ?_;go_wp2_with fail
 cases c₀
 simp_all [bodyPostS,results,Tryz.results68]
def KW(g a er:Nat)(w:World):Prop:=w.cell? ⟨g,0,none⟩=some (.int .i64 (a:Int))∧w.cell? ⟨g,1,none⟩=some (.int .i64 (er:Int))
theorem KW.of{g a er:Nat}{w:World}{t:TypeId}(h:Blk w g t #[.int .i64 (a:Int),.int .i64 (er:Int)]):KW g a er w:=⟨h.cell 0,h.cell 1⟩
theorem catch_wrong(g a er:Nat)(w:World){n0 n1 n2 n3 n4 n5 a0 q0:Value}(hn:Blk w g 62 #[n0,n1,n2,n3,n4,n5])(ha:Blk w (g+1) 3 #[a0])(he:Blk w (g+2) 47 #[q0]) :
  CallsD Tryz.prog 68 #[.pointer (some ⟨g,0,none⟩),.pointer (some ⟨g+1,0,none⟩),.pointer (some ⟨g+2,0,none⟩)] (.panicking [{ v:=.iface 128 (.agg #[.int .i64 (a:Int),.int .i64 (er:Int)]),recovered:=false }]) w fun e u' w'=>e = .returned (.tuple #[]) ∧
   u' = .panicking [{ v:=.iface 128 (.agg #[.int .i64 (a:Int),.int .i64 (er:Int)]),recovered:=true }] ∧
   Blk w' g 62 #[.int .i64 0,.string ⟨#[]⟩,.int .u32 0,.int .i64 0,.slice none 0 0,.slice none 0 0]∧Blk w' (g+1) 3 #[.int .i64 (a:Int)]∧Blk w' (g+2) 47 #[.int .i64 (er:Int)]∧Upd (fun b=>g≤b) w w':=by
 have hne:∀ w:World,(binOp BinOp.neq 20 (.iface 128 (.agg #[.int .i64 (a:Int),.int .i64 (er:Int)])) .nilIface).run Tryz.prog w = .ok (.bool true) w:=fun _=>by kernel_rfl
 have hta:∀ w:World,(Instr.typeAssert (.iface 128 (.agg #[.int .i64 (a:Int),.int .i64 (er:Int)])) 20 128 false).run Tryz.prog w = .ok (.agg #[.int .i64 (a:Int),.int .i64 (er:Int)]) w:=fun _=>by kernel_rfl
 refine callsD_of_wpS Tryz.func68 rfl fun c₀ cs hu=>?_
 apply wpS_seq;apply wpS_region;simp [wpOpsS,go_sem,recoverD,hu,Tryz.ntmps68,Exit.thenS];refine wpS_of_wp ?_;simp only [Array.replicate_succ,Array.replicate_zero,List.push_toArray,List.setIfInBounds_toArray,List.set_cons_succ,List.set_cons_zero,List.append_toArray,List.cons_append,List.nil_append];have HNN:=Hi hn;have HAA:=Hi ha;have HEE:=Hi he;clear hn ha he;go_upto_region 3 with fail
 obtain ⟨w1,hw1⟩:∃ w1,w.alloc (.cells #[.int .i64 (a:Int),.int .i64 (er:Int)] 128)=w1:=⟨_,rfl⟩;have hb1:Below w.heap.size w w1:=by rw [←hw1];exact (Below.refl _ _).alloc (Nat.le_refl _) _
 have hbw:Blk w1 w.heap.size 128 #[.int .i64 (a:Int),.int .i64 (er:Int)]:=by rw [←hw1];exact Blk.new _ _ _
 have hg0:=HNN.out.lt;have hg1:=HAA.out.lt;have hg2:=HEE.out.lt;have hN:=(HNN.out.below hb1 hg0).drew;have hA:=(HAA.out.below hb1 hg1).drew;have hE:=(HEE.out.below hb1 hg2).drew;have hZ0:KW w.heap.size a er w1.drew:=KW.of hbw.drew;have HBW:=Hi hbw.drew;have HU1:=Hi (show Upd (fun b=>g≤b) w w1.drew from (Upd.of_below hb1 _).drew);rw [hw1];clear hw1 hb1 hbw;obtain ⟨w2,hw2⟩:∃ w2,w1.drew=w2:=⟨_,rfl⟩;refine HT.wp_region (Z:=fun w'=>KW w.heap.size a er w') (S:=fun _=>True) (st:=[]) (by kernel_rfl) ?_;rw [hw2] at hN hA hE hZ0 HBW HU1 ⊢;clear hw2;refine HT.takeP (i:=0) (v:=?_) rfl (by kernel_rfl) (by kernel_rfl) (by kernel_rfl) (by kernel_rfl) (fun _ _ _ h=>h) (Or.inl ⟨by rfl,?_⟩) hZ0 (fun _=>trivial) ?_;rotate_left
 ·(intro w hSw;obtain ⟨y0,y1⟩:=hSw;go_simp;try with_reducible rfl)
 (try simp only [HT.pS]);refine HT.takeP (i:=1) (v:=?_) rfl (by kernel_rfl) (by kernel_rfl) (by kernel_rfl) (by kernel_rfl) (fun _ _ _ h=>h) (Or.inl ⟨by rfl,?_⟩) hZ0 (fun _=>trivial) ?_;rotate_left
 ·(intro w hSw;obtain ⟨y0,y1⟩:=hSw;go_simp;try with_reducible rfl)
 (try simp only [HT.pS]);refine HT.takeP (i:=2) (v:=?_) rfl (by kernel_rfl) (by kernel_rfl) (by kernel_rfl) (by kernel_rfl) (fun _ _ _ h=>h) (Or.inl ⟨by rfl,?_⟩) hZ0 (fun _=>trivial) ?_;rotate_left
 ·(intro w hSw;obtain ⟨y0,y1⟩:=hSw;go_simp;try with_reducible rfl)
 (try simp only [HT.pS]);refine HT.takeP (i:=3) (v:=?_) rfl (by kernel_rfl) (by kernel_rfl) (by kernel_rfl) (by kernel_rfl) (fun _ _ _ h=>h) (Or.inl ⟨by rfl,?_⟩) hZ0 (fun _=>trivial) ?_;rotate_left
 ·(intro w hSw;obtain ⟨y0,y1⟩:=hSw;go_simp;try with_reducible rfl)
 (try simp only [HT.pS]);refine HT.takeP (i:=4) (v:=?_) rfl (by kernel_rfl) (by kernel_rfl) (by kernel_rfl) (by kernel_rfl) (fun _ _ _ h=>h) (Or.inl ⟨by rfl,?_⟩) hZ0 (fun _=>trivial) ?_;rotate_left
 ·(intro w hSw;obtain ⟨y0,y1⟩:=hSw;go_simp;try with_reducible rfl)
 (try simp only [HT.pS]);obtain ⟨⟨e0,e1,e2,e3,e4,e5⟩,z0,z1,z2,z3,z4,z5⟩:=Blk.c6 hN;have c1:w2.cell? ⟨g+1,0,none⟩=some a0:=hA.cell 0;have c2:w2.cell? ⟨g+2,0,none⟩=some q0:=hE.cell 0;have f1:=hA.frozen 0;have hgw:w.heap.size≠g:=by omega
 have hgw1:w.heap.size≠g+1:=by omega
 have hgw2:w.heap.size≠g+2:=by omega
 have f2:=hE.frozen 0;refine HT.one (i:=5) (by kernel_rfl) rfl (fun K hK=>?_);go_simp;refine hK.out _ _ (KW.of (put6_far HBW.out hgw _ _ _ _ _ _)) trivial ?_;clear hK K;(try simp only [HT.pS]);refine HT.one (i:=6) (by kernel_rfl) rfl (fun K hK=>?_);go_simp;refine hK.out _ _ (KW.of ((put6_far HBW.out hgw _ _ _ _ _ _).far (p:=⟨g+1,0,none⟩) hgw1 _)) trivial ?_;clear hK K;(try simp only [HT.pS]);refine HT.one (i:=7) (by kernel_rfl) rfl (fun K hK=>?_);go_simp;refine hK.out _ _ (KW.of (((put6_far HBW.out hgw _ _ _ _ _ _).far (p:=⟨g+1,0,none⟩) hgw1 _).far (p:=⟨g+2,0,none⟩) hgw2 _)) trivial ?_;clear hK K;refine HT.done (by kernel_rfl) ?_;(try simp only [HT.pS]);have hg01:g≠g+1:=by omega
 have hg02:g≠g+2:=by omega
 have hg12:g+1≠g+2:=by omega
 have hNN:=((Blk.put6 hN (.int .i64 0) (.string ⟨#[]⟩) (.int .u32 0) (.int .i64 0) (.slice none 0 0) (.slice none 0 0)).far (p:=⟨g+1,0,none⟩) hg01 (.int .i64 (a:Int))).far (p:=⟨g+2,0,none⟩) hg02 (.int .i64 (er:Int));have hAA:Blk _ (g+1) 3 #[.int .i64 (a:Int)]:=((put6_far hA (Ne.symm hg01) (.int .i64 0) (.string ⟨#[]⟩) (.int .u32 0) (.int .i64 0) (.slice none 0 0) (.slice none 0 0)).set 0 (.int .i64 (a:Int))).far (p:=⟨g+2,0,none⟩) hg12 (.int .i64 (er:Int));have hEE:Blk _ (g+2) 47 #[.int .i64 (er:Int)]:=((put6_far hE (Ne.symm hg02) (.int .i64 0) (.string ⟨#[]⟩) (.int .u32 0) (.int .i64 0) (.slice none 0 0) (.slice none 0 0)).far (p:=⟨g+1,0,none⟩) (Ne.symm hg12) (.int .i64 (a:Int))).set 0 (.int .i64 (er:Int));have hUU:=((put6_upd HU1.out (fun _=>Nat.le_refl g) (.int .i64 0) (.string ⟨#[]⟩) (.int .u32 0) (.int .i64 0) (.slice none 0 0) (.slice none 0 0)).setCell (p:=⟨g+1,0,none⟩) (fun _=>by show g≤g+1;omega) (.int .i64 (a:Int))).setCell (p:=⟨g+2,0,none⟩) (fun _=>by show g≤g+2;omega) (.int .i64 (er:Int));exact ⟨rfl,_,rfl,_,results_none rfl _ _ _,rfl,rfl,hNN,hAA,hEE,hUU⟩
end
end Go.Proofs.YtdhoemlomojfaaaGreatDoor.Pa
