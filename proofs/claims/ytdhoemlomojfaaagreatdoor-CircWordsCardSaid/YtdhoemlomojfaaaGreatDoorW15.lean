/- DERIVED. LxRes, FlStr, FlWo, FlMu, FlCu. By an AI agent. -/
import Derived.Test.YtdhoemlomojfaaaGreatDoorW02
import Derived.Laws.Rows
import Derived.WalkKit
import Derived.Test.YtdhoemlomojfaaaGreatDoorW01
import Derived.Test.YtdhoemlomojfaaaGreatDoorW14
import Derived.Test.YtdhoemlomojfaaaGreatDoorW03
import Derived.Test.YtdhoemlomojfaaaGreatDoorW13
import Derived.Deep.Cut
import Derived.Carry
set_option maxRecDepth 100000
set_option maxHeartbeats 8000000
set_option linter.unusedVariables false
set_option linter.unusedSimpArgs false
namespace Go.Proofs.YtdhoemlomojfaaaGreatDoor.Args
open Go Go.RowKit
theorem loadVar_plain{P:Program}{w:World}{ty:TypeId}{p:Addr}{v:Value}(ha:(isAgg ty).run P w = .ok false w)(hc:w.cell? p=some v):(loadVar ty p).run P w = .ok v w:=by
 unfold loadVar;rw [Sem.run_bind,ha];simp only [Result.andThen];simp [load,Sem.run,hc]
theorem results_ct{fn:Func}{p u:Tmp}{ty:TypeId}(h:fn.results = #[.cell p ty,.tmp u]){P:Program}(tmps:Array Value)(w:World)(g:Nat)(v:Value)
  (hp:tmps.getD p undef = .pointer (some ⟨g,0,none⟩)) (hL:(loadVar ty ⟨g,0,none⟩).run P w = .ok v w) :
  (results fn tmps).run P w = .ok (.tuple #[v,tmps.getD u undef]) w:=by
 have hp':tmps[p]?.getD undef = .pointer (some ⟨g,0,none⟩):=by simpa using hp
 simp [results,h,hp',asAddr,hL]
theorem results_cc{fn:Func}{p q:Tmp}{ty tz:TypeId}(h:fn.results = #[.cell p ty,.cell q tz]){P:Program}(tmps:Array Value)(w:World)(g g2:Nat)(v v2:Value)
  (hp:tmps.getD p undef = .pointer (some ⟨g,0,none⟩)) (hq:tmps.getD q undef = .pointer (some ⟨g2,0,none⟩))
  (hL:(loadVar ty ⟨g,0,none⟩).run P w = .ok v w) (hM:(loadVar tz ⟨g2,0,none⟩).run P w = .ok v2 w) :
  (results fn tmps).run P w = .ok (.tuple #[v,v2]) w:=by
 have hp':tmps[p]?.getD undef = .pointer (some ⟨g,0,none⟩):=by simpa using hp
 have hq':tmps[q]?.getD undef = .pointer (some ⟨g2,0,none⟩):=by simpa using hq
 simp [results,h,hp',hq',asAddr,hL,hM]
theorem results_ccc{fn:Func}{p q r:Tmp}{tx ty tz:TypeId}(h:fn.results = #[.cell p tx,.cell q ty,.cell r tz]){P:Program}(tmps:Array Value)(w:World)(g1 g2 g3:Nat)(v1 v2 v3:Value)
  (hp:tmps.getD p undef = .pointer (some ⟨g1,0,none⟩)) (hq:tmps.getD q undef = .pointer (some ⟨g2,0,none⟩)) (hr:tmps.getD r undef = .pointer (some ⟨g3,0,none⟩))
  (h1:(loadVar tx ⟨g1,0,none⟩).run P w = .ok v1 w) (h2:(loadVar ty ⟨g2,0,none⟩).run P w = .ok v2 w) (h3:(loadVar tz ⟨g3,0,none⟩).run P w = .ok v3 w) :
  (results fn tmps).run P w = .ok (.tuple #[v1,v2,v3]) w:=by
 have hp':tmps[p]?.getD undef = .pointer (some ⟨g1,0,none⟩):=by simpa using hp
 have hq':tmps[q]?.getD undef = .pointer (some ⟨g2,0,none⟩):=by simpa using hq
 have hr':tmps[r]?.getD undef = .pointer (some ⟨g3,0,none⟩):=by simpa using hr
 simp [results,h,hp',hq',hr',asAddr,h1,h2,h3]
end Go.Proofs.YtdhoemlomojfaaaGreatDoor.Args
namespace Go.Proofs.YtdhoemlomojfaaaGreatDoor.Fl
open Go Go.ChangeShapes Go.WideShapes Go.ChangeAt Go.RowKit Lx Args Pa Sh Go.Proofs.YtdhoemlomojfaaaGreatDoor.Nm
abbrev zNV:Value:=.agg #[.int .i64 0,.string ⟨#[]⟩,.int .u32 0,.int .i64 0,.slice none 0 0,.slice none 0 0]
def StrP(w:World)(r:Option (Int×Int×Bs))(e:Ending)(w':World):Prop:=
 match r with
 | none=>e = .returned (.tuple #[zNV,.bool false])∧Below w.heap.size w w'
 | some (k,a,s)=>s.length≤maxLen∧(∃ (n:Nat) (A:Option Addr) (la cA:Nat) (B:Option Addr) (lb cB:Nat),e = .returned (.tuple #[nzA k a s n A la cA B lb cB,.bool true]))∧Below w.heap.size w w'
theorem szNd:(Tryz.prog.info? 62).map (·.size)=some 6:=by kernel_rfl
theorem results_c1t{fn:Func}{p q:Tmp}{tx:TypeId}(h:fn.results = #[.cell p tx,.tmp q]){P:Program}(tmps:Array Value)(w:World)(g1:Nat)(v1:Value)
  (hp:tmps.getD p undef = .pointer (some ⟨g1,0,none⟩)) (h1:(loadVar tx ⟨g1,0,none⟩).run P w = .ok v1 w) :
  (results fn tmps).run P w = .ok (.tuple #[v1,tmps.getD q undef]) w:=by
 have hp':tmps[p]?.getD undef = .pointer (some ⟨g1,0,none⟩):=by simpa using hp
 simp [results,h,hp',asAddr,h1]
theorem resStr{g:Nat}{n:Array Value}{W:World}(hN:Blk W g 62 n)(hs:some 6=some n.size)(tmps:Array Value)(h4:tmps.getD 4 undef = .pointer (some ⟨g,0,none⟩)) :
  (results Tryz.f118 tmps).run Tryz.prog W = .ok (.tuple #[.agg n,tmps.getD 5 undef]) W:=
 results_c1t rfl tmps W g (.agg n) h4 (run_loadVar_row W g 62 62 n (0,0) _ hN Tryz.underlying62 rfl (szNd.trans hs))
theorem boxes2(w:World)(cs:Array Value):∃ w0,(w.alloc (.cells cs 62)).alloc (.cells #[.int .i64 0,.string ⟨#[]⟩,.int .u32 0,.int .i64 0,.slice none 0 0,.slice none 0 0] 62)=w0∧Below w.heap.size w w0∧w0.heap.size=w.heap.size+2 ∧
  Blk w0 w.heap.size 62 cs∧Blk w0 (w.heap.size+1) 62 #[.int .i64 0,.string ⟨#[]⟩,.int .u32 0,.int .i64 0,.slice none 0 0,.slice none 0 0]:=by
 refine ⟨_,rfl,((Below.refl _ _).alloc (Nat.le_refl _) _).alloc (by simp) _,by simp,(Blk.new _ _ _).alloc _,?_⟩;have h:=Blk.new (w.alloc (.cells cs 62)) 62 #[.int .i64 0,.string ⟨#[]⟩,.int .u32 0,.int .i64 0,.slice none 0 0,.slice none 0 0];have e:(w.alloc (.cells cs 62)).heap.size=w.heap.size+1:=by simp
 rw [e] at h;exact h
abbrev put6(w:World)(g:Nat)(a b c d e f:Value):World:=(((((w.setCell ⟨g,0,none⟩ a).setCell ⟨g,1,none⟩ b).setCell ⟨g,2,none⟩ c).setCell ⟨g,3,none⟩ d).setCell ⟨g,4,none⟩ e).setCell ⟨g,5,none⟩ f
theorem blk_put6{w:World}{g:Nat}{t:TypeId}{a' b' c' d' e' f':Value}(h:Blk w g t #[a',b',c',d',e',f'])(a b c d e f:Value):Blk (put6 w g a b c d e f) g t #[a,b,c,d,e,f]:=(((((h.set 0 a).set 1 b).set 2 c).set 3 d).set 4 e).set 5 f
theorem below_put6{w:World}{g B:Nat}(hB:B≤g){W:World}(h:Below B W w)(a b c d e f:Value):Below B W (put6 w g a b c d e f):=
 (((((h.setCell (p:=⟨g,0,none⟩) hB a).setCell (p:=⟨g,1,none⟩) hB b).setCell (p:=⟨g,2,none⟩) hB c).setCell (p:=⟨g,3,none⟩) hB d).setCell (p:=⟨g,4,none⟩) hB e).setCell (p:=⟨g,5,none⟩) hB f
theorem strBs_cons(lo:Lo)(x:Tz)(l:List Tz):strBs lo (x :: l)=match strB lo x with | some e=>some e | none=>strBs lo l:=by
 conv=>lhs;unfold strBs
 cases strB lo x <;> rfl
theorem strayQ{w0:World}{q:Bool×Nat}{lo:Lo}{I:World→Prop}(hI:NuI q lo I):∀ (m:Nat) (z:Tz),SizeOf.sizeOf z < m→∀ (w:World) (k a:Int) (s:Bs) (n:Nat) (A:Option Addr) (la cA:Nat) (B:Option Addr) (lb cB:Nat),Below w0.heap.size w0 w→I w→TrV w0 z k a s n A la cA B lb cB →
  Calls Tryz.prog 118 #[nzA k a s n A la cA B lb cB,nvQ q] w (StrP w (strB (lo) z))
 | 0,z,h=>absurd h (Nat.not_lt_zero _)
 | m+1,.mk k1 a1 s1 n1 ps l,hm=>fun w k a s n A la cA B lb cB hb hM hT=>by
  obtain ⟨rfl,rfl,rfl,rfl,rfl,rfl,hP,hs,hn,-,-,-,-⟩:=hT.parts;obtain ⟨w1,hw1,hb1,hs1,hX1,hR1⟩:=boxes2 w (nB k a s n A l.length cA B ps.length cB);have hM1:=hI.mono hM hb1;have HFI:=Hi (fitsQ w1 q lo I hI hM1 k a s hs n A l.length cA B ps.length cB);have hstr:strB (lo) (.mk k a s n ps l)=if fitB (lo) k s l.length=true then strBs (lo) l else some (k,a,s):=by conv=>lhs;unfold strB
  rw [hstr];have IH:=Hi (strayQ (w0:=w0) hI m);have HB1:=Hi hb1;have HW1:=Hi hw1;have HX1:=Hi hX1;have HR1:=Hi hR1;have HM1:=Hi hM1;have HP:=Hi hP;have HS:=Hi hs;have HB0:=Hi (hb.trans (hb1.mono hb.size));have HM:=Hi hm;have HSZ:=Hi hs1;obtain ⟨⟨e0,e1,e2,e3,e4,e5⟩,z0,z1,z2,z3,z4,z5⟩:=Blk.c6 hX1;generalize fitB (lo) k s l.length=fi at HFI ⊢;obtain ⟨res,hres⟩:∃ res,(if fi=true then strBs (lo) l else some (k,a,s))=res:=⟨_,rfl⟩;rw [hres];have HRES:=Hi hres;clear hres;obtain ⟨g0,hg0⟩:∃ g0,w.heap.size=g0:=⟨_,rfl⟩;have HG0:=Hi hg0;rw [hg0] at e0 e1 e2 e3 e4 e5 z0 z1 z2 z3 z4 z5 HX1 HR1;clear hb hM hT hP hb1 hw1 hX1 hR1 hM1 hstr hm hs1 hs hn;go_enter Tryz.func118,Tryz.ntmps118;go_wp2_with fail
  rw [HW1.out];refine (show Calls Tryz.prog 148 #[nzA k a s n A l.length cA B ps.length cB,nvQ q] w1 _ from HFI.out).mono ?_;rintro e w2 ⟨rfl,hb2⟩;have hX2:=HX1.out.below hb2 HX1.out.lt;have hR2:=HR1.out.below hb2 HR1.out.lt;clear e0 e1 e2 e3 e4 e5 z0 z1 z2 z3 z4 z5;obtain ⟨⟨e0,e1,e2,e3,e4,e5⟩,z0,z1,z2,z3,z4,z5⟩:=Blk.c6 hX2;have HB2:=Hi (HB1.out.trans (hb2.mono HB1.out.size));have HR2:=Hi hR2;have HX2:=Hi hX2;have HM2:=Hi (hI.mono HM1.out hb2);have HB02:=Hi (HB0.out.trans (hb2.mono HB0.out.size));obtain ⟨⟨y0,y1,y2,y3,y4,y5⟩,x0,x1,x2,x3,x4,x5⟩:=Blk.c6 hR2;have hgl:=hR2.lt;clear hb2 hX2 hR2;cases fi with
  | false=>
   have HR9:=Hi (show some (k,a,s)=res from HRES.out);clear HRES;have HQ:=Hi (blk_put6 HR2.out (.int .i64 k) (.string ⟨s.toArray⟩) (.int .u32 (n:Int)) (.int .i64 a) (.slice A l.length cA) (.slice B ps.length cB));have HEND:=Hi (show StrP w (some (k,a,s)) (.returned (.tuple #[nzA k a s n A l.length cA B ps.length cB,.bool true])) (put6 w2 (g0+1) (.int .i64 k) (.string ⟨s.toArray⟩) (.int .u32 (n:Int)) (.int .i64 a) (.slice A l.length cA) (.slice B ps.length cB)) from
    ⟨HS.out,⟨n,A,l.length,cA,B,ps.length,cB,rfl⟩,below_put6 (by have:=HG0.out;omega) HB2.out _ _ _ _ _ _⟩)
   rw [HR9.out] at HEND;go_wp2_with fail
   exact bodyPost_ret (v:=.tuple #[nzA k a s n A l.length cA B ps.length cB,.bool true]) (resStr HQ.out rfl _ rfl) rfl HEND.out
  | true=>
   have HR9:=Hi (show strBs (lo) l=res from HRES.out);clear HRES;clear y0 y1 y2 y3 y4 y5 x0 x1 x2 x3 x4 x5;have hlm:l.length≤9223372036854775807:=Nat.le_trans HP.out.le HP.out.cap;go_wp2_with fail
   go_loopw [18] (fun vi wr=>∃ i:Nat,i≤l.length∧vi = .int .i64 (i:Int)∧Hid (Below w.heap.size w wr)∧Hid (Below w0.heap.size w0 wr)∧Hid (I wr)∧Hid (Blk wr (g0+1) 62 #[.int .i64 0,.string ⟨#[]⟩,.int .u32 0,.int .i64 0,.slice none 0 0,.slice none 0 0])∧Hid (strBs (lo) (l.drop i)=res)) (fun vi _=>l.length - (intOf vi).toNat)
   case atStart=>exact ⟨0,by omega,rfl,HB2,HB02,HM2,HR2,HR9⟩
   case round=>
    obtain ⟨i,hi,rfl,HB,HB0r,HMr,HR,HQ⟩:=hrel;by_cases hlt:i < l.length
    ·have hil:(i:Int) < (l.length:Int):=by omega
     obtain ⟨y,hy⟩:∃ y,l[i]?=some y:=⟨_,List.getElem?_eq_getElem hlt⟩;obtain ⟨bb,o,k',a',s',n',A',la',cA',B',lb',cB',hA,hTy,hbl,g0',g1,g2,g3,g4,g5⟩:=HP.out.at_ HB0r.out hy;subst hA;obtain ⟨wb,hwb,hbb,hXb,hsb⟩:=a_box wr (nB k' a' s' n' A' la' cA' B' lb' cB');have hsy:SizeOf.sizeOf y < m:=by have:=size_memz (k:=k) (a:=a) (n:=n) (s:=s) (ps:=ps) hy;have:=HM.out;omega
     have hC:=IH.out y hsy wb k' a' s' n' A' la' cA' B' lb' cB' (HB0r.out.trans (hbb.mono HB0r.out.size)) (hI.mono HMr.out hbb) hTy;have hq:=HQ.out;rw [drop_at hy,strBs_cons] at hq;obtain ⟨⟨e0,e1,e2,e3,e4,e5⟩,z0,z1,z2,z3,z4,z5⟩:=Blk.c6 hXb;have HC:=Hi hC;have HWB:=Hi hwb;have HQ2:=Hi hq;have HBB:=Hi hbb;have hbl2:bb < wr.heap.size:=Nat.lt_of_lt_of_le hbl HB0r.out.size;have HXb:=Hi hXb;have HSB:=Hi hsb;clear hC hwb hbb hXb hq hTy hsy hy hsb;generalize strB (lo) y=r2 at HC HQ2;go_wp2_with fail
     rw [HWB.out];refine (show Calls Tryz.prog 118 #[nzA k' a' s' n' A' la' cA' B' lb' cB',nvQ q] wb _ from HC.out).mono ?_;intro e w4 h4;clear e0 e1 e2 e3 e4 e5 z0 z1 z2 z3 z4 z5;cases r2 with
     | some r2=>
      obtain ⟨k2,a2,s2⟩:=r2;obtain ⟨hs2,⟨n2,A2,la2,cA2,B2,lb2,cB2,rfl⟩,hb4⟩:=h4;have hb4':=HBB.out.trans (hb4.mono HBB.out.size);have hR4:=HR.out.below hb4' HR.out.lt;obtain ⟨w5,hw5,hb5,hX5,hs5⟩:=a_box w4 (nB k2 a2 s2 n2 A2 la2 cA2 B2 lb2 cB2);have hR5:=hR4.below hb5 hR4.lt;obtain ⟨⟨e0,e1,e2,e3,e4,e5⟩,z0,z1,z2,z3,z4,z5⟩:=Blk.c6 hX5;obtain ⟨⟨y0,y1,y2,y3,y4,y5⟩,x0,x1,x2,x3,x4,x5⟩:=Blk.c6 hR5;have HQ5:=Hi (blk_put6 hR5 (.int .i64 k2) (.string ⟨s2.toArray⟩) (.int .u32 (n2:Int)) (.int .i64 a2) (.slice A2 la2 cA2) (.slice B2 lb2 cB2));have HEND:=Hi (show StrP w (some (k2,a2,s2)) (.returned (.tuple #[nzA k2 a2 s2 n2 A2 la2 cA2 B2 lb2 cB2,.bool true])) (put6 w5 (g0+1) (.int .i64 k2) (.string ⟨s2.toArray⟩) (.int .u32 (n2:Int)) (.int .i64 a2) (.slice A2 la2 cA2) (.slice B2 lb2 cB2)) from
       ⟨hs2,⟨n2,A2,la2,cA2,B2,lb2,cB2,rfl⟩,below_put6 (by have:=HG0.out;omega) (HB.out.trans ((hb4'.trans (hb5.mono hb4'.size)).mono HB.out.size)) _ _ _ _ _ _⟩)
      have HQ3:=Hi (show some (k2,a2,s2)=res from HQ2.out);have HW5:=Hi hw5;have q1:g0+1 < w5.heap.size:=hR5.lt;have q2:¬ g0+1=w4.heap.size:=by have:=hR4.lt;omega
      have q3:¬ w4.heap.size=g0+1:=by have:=hR4.lt;omega
      have q4:w4.heap.size < w5.heap.size:=hX5.lt;rw [HQ3.out] at HEND;clear hb4 hb4' hR4 hb5 hX5 hs5 hR5 hw5;go_upto_region 7 with fail
      rw [HW5.out];go_wp2_with fail
      exact bodyPost_ret (v:=.tuple #[nzA k2 a2 s2 n2 A2 la2 cA2 B2 lb2 cB2,.bool true]) (resStr HQ5.out rfl _ rfl) rfl HEND.out
     | none=>
      obtain ⟨rfl,hb4⟩:=h4;have hb4':=HBB.out.trans (hb4.mono HBB.out.size);obtain ⟨w5,hw5,hb5,hX5,hs5⟩:=a_box w4 #[.int .i64 0,.string ⟨#[]⟩,.int .u32 0,.int .i64 0,.slice none 0 0,.slice none 0 0];have hb5':=hb4'.trans (hb5.mono hb4'.size);have H1:=Hi (HB.out.trans (hb5'.mono HB.out.size));have H2:=Hi (HB0r.out.trans (hb5'.mono HB0r.out.size));have H3:=Hi (hI.mono HMr.out hb5');have H4:=Hi (HR.out.below hb5' HR.out.lt);have HQ3:=Hi (show strBs (lo) (l.drop (i+1))=res from HQ2.out);have HW5:=Hi hw5;clear hb4 hb4' hb5 hX5 hs5 hw5 hb5';go_upto_region 7 with fail
      rw [HW5.out];go_wp2_with fail
      go_roundw
      case rel=>exact ⟨i+1,by omega,by go_num,H1,H2,H3,H4,HQ3⟩
      case measure=>simp [intOf];omega
    ·obtain rfl:i=l.length:=by omega
     have hq:=HQ.out;rw [List.drop_length] at hq
     conv at hq=>lhs;unfold strBs
     have HQ2:=Hi hq;obtain ⟨⟨y0,y1,y2,y3,y4,y5⟩,x0,x1,x2,x3,x4,x5⟩:=Blk.c6 HR.out;have hgl:=HR.out.lt;have HQ5:=Hi (blk_put6 HR.out (.int .i64 0) (.string ⟨#[]⟩) (.int .u32 0) (.int .i64 0) (.slice none 0 0) (.slice none 0 0));have HEND:=Hi (show StrP w none (.returned (.tuple #[zNV,.bool false])) (put6 wr (g0+1) (.int .i64 0) (.string ⟨#[]⟩) (.int .u32 0) (.int .i64 0) (.slice none 0 0) (.slice none 0 0)) from
      ⟨rfl,below_put6 (by have:=HG0.out;omega) HB.out _ _ _ _ _ _⟩)
     rw [HQ2.out] at HEND;clear hq;go_wp2_with fail
     exact bodyPost_ret (v:=.tuple #[zNV,.bool false]) (resStr HQ5.out rfl _ rfl) rfl HEND.out
theorem stray{w0:World}{b q:Nat}{kn:Kw}(m:Nat)(z:Tz)(h:SizeOf.sizeOf z < m)(w:World)(k a:Int)(s:Bs)(n:Nat)(A:Option Addr)(la cA:Nat)(B:Option Addr)(lb cB:Nat)(hb:Below w0.heap.size w0 w)(hM:MpW w b q kn)(hT:TrV w0 z k a s n A la cA B lb cB) :
  Calls Tryz.prog 118 #[nzA k a s n A la cA B lb cB,nuV b] w (StrP w (strB (looB kn) z)):=strayQ (mpI b q kn) m z h w k a s n A la cA B lb cB hb hM hT
end Go.Proofs.YtdhoemlomojfaaaGreatDoor.Fl
namespace Go.Proofs.YtdhoemlomojfaaaGreatDoor.Fl
open Go Go.ChangeShapes Go.WideShapes Go.ChangeAt Go.RowKit Lx Args Pa Sh Go.Proofs.YtdhoemlomojfaaaGreatDoor.Nm WMath
mutual
def worB(lo:Lo):Tz→BitVec 32
 | .mk k a s n _ l=>if k = 0 then BitVec.ofNat 32 n else if k = 1 then (lo s).getD 0 else if k = 2 then unB s (worL lo 0 l) else if k = 3 then boB s (worL lo 0 l) (worL lo 1 l) else shB s (worL lo 0 l) (worL lo 1 l)
def worL(lo:Lo):Nat→List Tz→BitVec 32
 | _,[]=>0
 | 0,x :: _=>worB lo x
 | i+1,_ :: l=>worL lo i l
end
theorem worL_0(lo:Lo)(x:Tz)(l:List Tz):worL lo 0 (x :: l)=worB lo x:=by unfold worL;rfl
theorem worL_1(lo:Lo)(x y:Tz)(l:List Tz):worL lo 1 (x :: y :: l)=worB lo y:=by unfold worL;exact worL_0 lo y l
theorem worB_mk(lo:Lo)(k a:Int)(s:Bs)(n:Nat)(ps:List Bs)(l:List Tz):worB lo (.mk k a s n ps l)=if k = 0 then BitVec.ofNat 32 n else if k = 1 then (lo s).getD 0 else if k = 2 then unB s (worL lo 0 l) else if k = 3 then boB s (worL lo 0 l) (worL lo 1 l) else shB s (worL lo 0 l) (worL lo 1 l):=by conv=>lhs;unfold worB
theorem str_none{lo:Lo}{k a:Int}{s:Bs}{n:Nat}{ps:List Bs}{l:List Tz}(h:strB lo (.mk k a s n ps l)=none):fitB lo k s l.length=true∧strBs lo l=none:=by
 unfold strB at h;by_cases hf:fitB lo k s l.length=true
 ·rw [if_pos hf] at h;exact ⟨hf,h⟩
 ·rw [if_neg hf] at h;cases h
theorem strs_none{lo:Lo}{x:Tz}{l:List Tz}(h:strBs lo (x :: l)=none):strB lo x=none∧strBs lo l=none:=by
 rw [strBs_cons] at h;cases hx:strB lo x with
 | some e=>rw [hx] at h;cases h
 | none=>rw [hx] at h;exact ⟨rfl,h⟩
theorem Pts.cells{w0:World}{A:Option Addr}{c:Nat}{l:List Tz}(h:Pts w0 A c l){i:Nat}{y:Tz}(hy:l[i]?=some y) :
  ∃ b o k a s n A' la cA B lb cB,A=some ⟨b,o,none⟩∧TrV w0 y k a s n A' la cA B lb cB∧b < w0.heap.size∧∀ v,Below w0.heap.size w0 v→v.cell? ⟨b,o+i * 6,none⟩=some (.int .i64 k)∧v.cell? ⟨b,o+i * 6+1,none⟩=some (.string ⟨s.toArray⟩) ∧
   v.cell? ⟨b,o+i * 6+2,none⟩=some (.int .u32 (n:Int))∧v.cell? ⟨b,o+i * 6+3,none⟩=some (.int .i64 a)∧v.cell? ⟨b,o+i * 6+4,none⟩=some (.slice A' la cA)∧v.cell? ⟨b,o+i * 6+5,none⟩=some (.slice B lb cB):=by
 obtain ⟨b,o,k,a,s,n,A',la,cA,B,lb,cB,h1,h2,h3,e0,e1,e2,e3,e4,e5⟩:=h.at_ (Below.refl _ _) hy;exact ⟨b,o,k,a,s,n,A',la,cA,B,lb,cB,h1,h2,h3,fun v hv=>⟨(hv.cell h3).trans e0,(hv.cell h3).trans e1,(hv.cell h3).trans e2,(hv.cell h3).trans e3,(hv.cell h3).trans e4,(hv.cell h3).trans e5⟩⟩
theorem worthQ{w0:World}{q:Bool×Nat}{lo:Lo}{I:World→Prop}(hI:NuI q lo I):∀ (m:Nat) (z:Tz),SizeOf.sizeOf z < m→∀ (w:World) (k a:Int) (s:Bs) (n:Nat) (A:Option Addr) (la cA:Nat) (B:Option Addr) (lb cB:Nat),Below w0.heap.size w0 w→I w→TrV w0 z k a s n A la cA B lb cB→strB lo z=none →
  Calls Tryz.prog 92 #[nzA k a s n A la cA B lb cB,nvQ q] w (WoP w (worB lo z))
 | 0,z,h=>absurd h (Nat.not_lt_zero _)
 | m+1,.mk k1 a1 s1 n1 ps l,hm=>fun w k a s n A la cA B lb cB hb hM hT hst=>by
  obtain ⟨rfl,rfl,rfl,rfl,rfl,rfl,hP,hs,hn,-,-,-,-⟩:=hT.parts;obtain ⟨hfit,hsts⟩:=str_none hst;obtain ⟨w1,hw1,hb1,hX1,hs1⟩:=a_box w (nB k a s n A l.length cA B ps.length cB);have hM1:=hI.mono hM hb1;have IH:=Hi (worthQ (w0:=w0) hI m);have HB1:=Hi hb1;have HW1:=Hi hw1;have HX1':=Hi hX1;have HM1:=Hi hM1;have HP:=Hi hP;have HB0:=Hi (hb.trans (hb1.mono hb.size));have HM:=Hi hm;obtain ⟨⟨e0,e1,e2,e3,e4,e5⟩,z0,z1,z2,z3,z4,z5⟩:=Blk.c6 hX1;have HN:=Hi (hI.run w1 hM1 s hs);obtain ⟨res,hres⟩:∃ res,worB lo (.mk k a s n ps l)=res:=⟨_,rfl⟩;rw [hres];rw [worB_mk] at hres;have HRES:=Hi hres;have hgl:=hX1.lt;have HSTS:=Hi hsts;have HN32:=Hi hn;clear hb hM hT hP hb1 hw1 hX1 hM1 hm hs1 hs hres hst hsts hn;by_cases hk1:k = 1
  ·subst hk1;have HR:=Hi (show (lo s).getD 0=res by rw [←HRES.out,if_neg (by decide),if_pos rfl]);unfold NumP loN at HN;rw [HR.out] at HN;clear HRES IH hfit HR;generalize (lo s).isSome=q1 at HN;obtain ⟨q,b⟩:=q;cases q
   case' false=>
    have hen:∀ w:World,(callFunc 93 #[.map (some b),.string ⟨s.toArray⟩]).run Tryz.prog w = .ok (.enter 93 #[.map (some b),.string ⟨s.toArray⟩]) w:=fun _=>by kernel_rfl
    have HN:=Hi (show Calls Tryz.prog 93 #[.map (some b),.string ⟨s.toArray⟩] w1 _ from HN.out);show Calls Tryz.prog 92 #[nzA 1 a s n A l.length cA B ps.length cB,.func (.func 93) #[.map (some b)] #[]] w _
   case' true=>
    have hen:∀ w:World,(callFunc 123 #[.string ⟨s.toArray⟩,.pointer (some ⟨b,0,none⟩)]).run Tryz.prog w = .ok (.enter 123 #[.string ⟨s.toArray⟩,.pointer (some ⟨b,0,none⟩)]) w:=fun _=>by kernel_rfl
    have HN:=Hi (show Calls Tryz.prog 123 #[.string ⟨s.toArray⟩,.pointer (some ⟨b,0,none⟩)] w1 _ from HN.out);show Calls Tryz.prog 92 #[nzA 1 a s n A l.length cA B ps.length cB,.func (.func 123) #[] #[.pointer (some ⟨b,0,none⟩)]] w _
   all_goals
    go_enter Tryz.func92,Tryz.ntmps92;go_upto_region 1 with fail
    rw [HW1.out];go_wp2_with fail
    refine HN.out.mono ?_;rintro e w5 ⟨rfl,hb5⟩;have HB5:=Hi (HB1.out.trans (hb5.mono HB1.out.size));clear hb5;go_wp2_with fail
    go_ret;exact ⟨rfl,HB5.out⟩
  go_enter Tryz.func92,Tryz.ntmps92;go_upto_region 1 with fail
  rw [HW1.out];by_cases hk0:k = 0
  ·subst hk0;have HR:=Hi (show BitVec.ofNat 32 n=res by rw [←HRES.out,if_pos rfl]);clear HRES HN IH hfit;go_wp2_with fail
   go_ret;refine ⟨?_,HB1.out⟩;have e:((res.toNat:Nat):Int)=(n:Int):=by rw [←HR.out,BitVec.toNat_ofNat,Nat.mod_eq_of_lt HN32.out]
   show Ending.returned (.int .u32 (n:Int)) = .returned (.int .u32 (res.toNat:Int));rw [e]
  clear HN;by_cases hk2:k = 2
  ·subst hk2;have hl1:l.length = 1:=by
    unfold fitB at hfit;rw [if_neg (by decide),if_neg (by decide),if_pos rfl,Bool.and_eq_true] at hfit;exact of_decide_eq_true hfit.1
   obtain ⟨x,rfl⟩:∃ x,l=[x]:=by
    match l,hl1 with
    | [x],_=>exact ⟨x,rfl⟩
   obtain ⟨bb,o,k',a',s',n',A',la',cA',B',lb',cB',hA,hTy,hbl,hcel⟩:=HP.out.cells (i:=0) (y:=x) rfl;subst hA;simp only [Nat.zero_mul,Nat.add_zero] at hcel;have hsy:SizeOf.sizeOf x < m:=by have:=size_memz (k:=2) (a:=a) (n:=n) (s:=s) (ps:=ps) (l:=[x]) (i:=0) (x:=x) rfl;have:=HM.out;omega
   have hst1:=(strs_none HSTS.out).1;have HCX:=Hi fun v (hv:Below w0.heap.size w0 v) (hMv:I v)=>IH.out x hsy v k' a' s' n' A' la' cA' B' lb' cB' hv hMv hTy hst1
   have HR:=Hi (show unB s (worB lo x)=res by rw [←HRES.out,if_neg (by decide),if_neg (by decide),if_pos rfl,worL_0]);generalize worB lo x=x2 at HCX HR;have HX0:=Hi hcel;have HLB:=Hi hbl;have HX1':=Hi (show Blk w1 w.heap.size 62 (nB 2 a s n (some ⟨bb,o,none⟩) 1 cA B ps.length cB) from HX1'.out);clear HRES hcel hTy hsy hfit IH hst1 hk1 hk0 hbl;go_wp2_with fail
   have hdr:Below w1.heap.size w1 w1.drew:=Below.drew (Below.refl _ _);obtain ⟨wd,hwd⟩:∃ v,w1.drew=v:=⟨_,rfl⟩;rw [hwd] at hdr;have HXd:=Hi (HX1'.out.below hdr HX1'.out.lt);have HBd:=Hi (HB1.out.trans (hdr.mono HB1.out.size));have HB0d:=Hi (HB0.out.trans (hdr.mono HB0.out.size));have HMd:=Hi (hI.mono HM1.out hdr);clear hdr e0 e1 e2 e3 e4 e5 z0 z1 z2 z3 z4 z5 hgl;have hZ0:Below wd.heap.size wd wd:=Below.refl _ _;refine HT.wp_region (Z:=fun w'=>Below wd.heap.size wd w') (S:=fun _=>True) (st:=[]) (by kernel_rfl) ?_;rw [hwd];clear hwd;refine HT.tk 0 rfl (by intro v hSw;have hA:=HXd.out.below hSw HXd.out.lt;have E_:=Blk.c6 hA;have hga:=hA.lt;clear hSw hA;go_simp;try with_reducible rfl) hZ0 HT.tr ?_;refine HT.tk 1 rfl (by intro v hSw;have hA:=HXd.out.below hSw HXd.out.lt;have E_:=Blk.c6 hA;have hga:=hA.lt;clear hSw hA;go_simp;try with_reducible rfl) hZ0 HT.tr ?_;refine HT.tk 2 rfl (by intro v hSw;have hA:=HXd.out.below hSw HXd.out.lt;have E_:=Blk.c6 hA;have hga:=hA.lt;clear hSw hA;go_simp;try with_reducible rfl) hZ0 HT.tr ?_;refine HT.tk 3 rfl (by intro v hSw;have hA:=HXd.out.below hSw HXd.out.lt;have E_:=Blk.c6 hA;have hga:=hA.lt;clear hSw hA;go_simp;try with_reducible rfl) hZ0 HT.tr ?_;refine HT.tm 4 rfl hZ0 HT.tr ?_;refine HT.tk 5 rfl (by intro v hSw;have hbv:=HB0d.out.trans (hSw.mono HB0d.out.size);obtain ⟨g0,g1,g2,g3,g4,g5⟩:=HX0.out v hbv;have hgb:=Nat.lt_of_lt_of_le HLB.out hbv.size;clear hSw hbv;go_simp;try with_reducible rfl) hZ0 HT.tr ?_;refine HT.tm 6 rfl hZ0 HT.tr ?_;refine HT.one (i:=7) (by kernel_rfl) rfl (fun K hK=>?_);go_simp;refine (show Calls Tryz.prog 92 #[nzA k' a' s' n' A' la' cA' B' lb' cB',nvQ q] wd _ from HCX.out wd HB0d.out HMd.out).mono ?_;rintro e w5 ⟨rfl,hb5⟩;(try dsimp only);refine hK.out _ _ hb5 trivial ?_;clear hK K;(try simp only [HT.pS]);refine HT.one (i:=8) (by kernel_rfl) rfl (fun K hK=>?_);go_simp;refine (alone w5 s x2).mono ?_;rintro e w7 ⟨rfl,hb7⟩;have hz7:=hb5.trans (hb7.mono hb5.size);rw [HR.out];(try dsimp only);refine hK.out _ _ hz7 trivial ?_;clear hK K;(try simp only [HT.pS]);refine HT.tm 9 rfl hz7 HT.tr ?_;refine HT.done (by kernel_rfl) ?_;have HEND:=Hi (HBd.out.trans (hz7.mono HBd.out.size));clear hZ0 hb5 hz7 hb7;go_wp2_with fail
   go_ret;exact ⟨rfl,HEND.out⟩
  have hk34:k = 3∨k = 4:=by
   by_cases h3:k = 3
   ·exact .inl h3
   by_cases h4:k = 4
   ·exact .inr h4
   exfalso;unfold fitB at hfit;rw [if_neg hk0,if_neg hk1,if_neg hk2,if_neg h3,if_neg h4] at hfit;cases hfit
  have hl2:l.length = 2:=by
   unfold fitB at hfit;rw [if_neg hk0,if_neg hk1,if_neg hk2] at hfit;rcases hk34 with rfl | rfl
   ·rw [if_pos rfl,Bool.and_eq_true] at hfit;exact of_decide_eq_true hfit.1
   ·rw [if_neg (by decide),if_pos rfl,Bool.and_eq_true] at hfit;exact of_decide_eq_true hfit.1
  obtain ⟨x,y,rfl⟩:∃ x y,l=[x,y]:=by
   match l,hl2 with
   | [x,y],_=>exact ⟨x,y,rfl⟩
  obtain ⟨bb,o,k',a',s',n',A',la',cA',B',lb',cB',hA,hTy,hbl,hcel⟩:=HP.out.cells (i:=0) (y:=x) rfl;subst hA;simp only [Nat.zero_mul,Nat.add_zero] at hcel;obtain ⟨bb2,o2,k2,a2,s2,n2,A2,la2,cA2,B2,lb2,cB2,hA2,hTy2,hbl2,hcel2⟩:=HP.out.cells (i:=1) (y:=y) rfl;simp only [Option.some.injEq,Addr.mk.injEq,and_true] at hA2;obtain ⟨rfl,rfl⟩:=hA2;simp only [Nat.one_mul,Nat.add_assoc,Nat.reduceAdd] at hcel2;obtain ⟨hst1,hst2⟩:=strs_none HSTS.out;have hsy:SizeOf.sizeOf x < m:=by have:=size_memz (k:=k) (a:=a) (n:=n) (s:=s) (ps:=ps) (l:=[x,y]) (i:=0) (x:=x) rfl;have:=HM.out;omega
  have hsy2:SizeOf.sizeOf y < m:=by have:=size_memz (k:=k) (a:=a) (n:=n) (s:=s) (ps:=ps) (l:=[x,y]) (i:=1) (x:=y) rfl;have:=HM.out;omega
  have HCX:=Hi fun v (hv:Below w0.heap.size w0 v) (hMv:I v)=>IH.out x hsy v k' a' s' n' A' la' cA' B' lb' cB' hv hMv hTy hst1
  have HCY:=Hi fun v (hv:Below w0.heap.size w0 v) (hMv:I v)=>IH.out y hsy2 v k2 a2 s2 n2 A2 la2 cA2 B2 lb2 cB2 hv hMv hTy2 (strs_none hst2).1
  rcases hk34 with rfl | rfl
  case' inl=>
   have HR:=Hi (show boB s (worB lo x) (worB lo y)=res by rw [←HRES.out,if_neg (by decide),if_neg (by decide),if_neg (by decide),if_pos rfl,worL_0,worL_1]);have HJ:=Hi fun w x y=>both w s x y
  case' inr=>
   have HR:=Hi (show shB s (worB lo x) (worB lo y)=res by rw [←HRES.out,if_neg (by decide),if_neg (by decide),if_neg (by decide),if_neg (by decide),worL_0,worL_1]);have HJ:=Hi fun w x y=>shifted w s x y
  all_goals
   generalize worB lo x=x2 at HCX HR;generalize worB lo y=y2 at HCY HR;have HX0:=Hi hcel;have HX1:=Hi hcel2;have HLB:=Hi hbl;have HX1':=Hi (show Blk w1 w.heap.size 62 (nB _ a s n (some ⟨bb,o,none⟩) 2 cA B ps.length cB) from HX1'.out);clear HRES hcel hcel2 hTy hTy2 hsy hsy2 hfit IH hst1 hst2 hk0 hk1 hk2 hbl hbl2 hl2;go_wp2_with fail
   have hdr:Below w1.heap.size w1 w1.drew:=Below.drew (Below.refl _ _);obtain ⟨wd,hwd⟩:∃ v,w1.drew=v:=⟨_,rfl⟩;rw [hwd] at hdr;have HXd:=Hi (HX1'.out.below hdr HX1'.out.lt);have HBd:=Hi (HB1.out.trans (hdr.mono HB1.out.size));have HB0d:=Hi (HB0.out.trans (hdr.mono HB0.out.size));have HMd:=Hi (hI.mono HM1.out hdr);clear hdr e0 e1 e2 e3 e4 e5 z0 z1 z2 z3 z4 z5 hgl;have hZ0:Below wd.heap.size wd wd:=Below.refl _ _;refine HT.wp_region (Z:=fun w'=>Below wd.heap.size wd w') (S:=fun _=>True) (st:=[]) (by kernel_rfl) ?_;rw [hwd];clear hwd;refine HT.tk 0 rfl (by intro v hSw;have hA:=HXd.out.below hSw HXd.out.lt;have E_:=Blk.c6 hA;have hga:=hA.lt;clear hSw hA;go_simp;try with_reducible rfl) hZ0 HT.tr ?_;refine HT.tk 1 rfl (by intro v hSw;have hA:=HXd.out.below hSw HXd.out.lt;have E_:=Blk.c6 hA;have hga:=hA.lt;clear hSw hA;go_simp;try with_reducible rfl) hZ0 HT.tr ?_;refine HT.tk 2 rfl (by intro v hSw;have hA:=HXd.out.below hSw HXd.out.lt;have E_:=Blk.c6 hA;have hga:=hA.lt;clear hSw hA;go_simp;try with_reducible rfl) hZ0 HT.tr ?_;refine HT.tk 3 rfl (by intro v hSw;have hA:=HXd.out.below hSw HXd.out.lt;have E_:=Blk.c6 hA;have hga:=hA.lt;clear hSw hA;go_simp;try with_reducible rfl) hZ0 HT.tr ?_;refine HT.tm 4 rfl hZ0 HT.tr ?_;refine HT.tk 5 rfl (by intro v hSw;have hbv:=HB0d.out.trans (hSw.mono HB0d.out.size);obtain ⟨g0,g1,g2,g3,g4,g5⟩:=HX0.out v hbv;have hgb:=Nat.lt_of_lt_of_le HLB.out hbv.size;clear hSw hbv;go_simp;try with_reducible rfl) hZ0 HT.tr ?_;refine HT.tm 6 rfl hZ0 HT.tr ?_;refine HT.tk 8 rfl (by intro v hSw;have hA:=HXd.out.below hSw HXd.out.lt;have E_:=Blk.c6 hA;have hga:=hA.lt;clear hSw hA;go_simp;try with_reducible rfl) hZ0 HT.tr ?_;refine HT.tk 9 rfl (by intro v hSw;have hA:=HXd.out.below hSw HXd.out.lt;have E_:=Blk.c6 hA;have hga:=hA.lt;clear hSw hA;go_simp;try with_reducible rfl) hZ0 HT.tr ?_;refine HT.tm 10 rfl hZ0 HT.tr ?_;refine HT.tk 11 rfl (by intro v hSw;have hbv:=HB0d.out.trans (hSw.mono HB0d.out.size);obtain ⟨g0,g1,g2,g3,g4,g5⟩:=HX1.out v hbv;have hgb:=Nat.lt_of_lt_of_le HLB.out hbv.size;clear hSw hbv;go_simp;try with_reducible rfl) hZ0 HT.tr ?_;refine HT.tm 12 rfl hZ0 HT.tr ?_;refine HT.one (i:=7) (by kernel_rfl) rfl (fun K hK=>?_);go_simp;refine (show Calls Tryz.prog 92 #[nzA k' a' s' n' A' la' cA' B' lb' cB',nvQ q] wd _ from HCX.out wd HB0d.out HMd.out).mono ?_;rintro e w5 ⟨rfl,hb5⟩;(try dsimp only);refine hK.out _ _ hb5 trivial ?_;clear hK K;(try simp only [HT.pS]);refine HT.one (i:=13) (by kernel_rfl) rfl (fun K hK=>?_);go_simp;refine (show Calls Tryz.prog 92 #[nzA k2 a2 s2 n2 A2 la2 cA2 B2 lb2 cB2,nvQ q] w5 _ from HCY.out w5 (HB0d.out.trans (hb5.mono HB0d.out.size)) (hI.mono HMd.out hb5)).mono ?_;rintro e w6 ⟨rfl,hb6⟩;have hz6:=hb5.trans (hb6.mono hb5.size);(try dsimp only);refine hK.out _ _ hz6 trivial ?_;clear hK K;(try simp only [HT.pS]);refine HT.one (i:=14) (by kernel_rfl) rfl (fun K hK=>?_);go_simp;refine (HJ.out w6 x2 y2).mono ?_;rintro e w7 ⟨rfl,hb7⟩;have hz7:=hz6.trans (hb7.mono hz6.size);rw [HR.out];(try dsimp only);refine hK.out _ _ hz7 trivial ?_;clear hK K;(try simp only [HT.pS]);refine HT.tm 15 rfl hz7 HT.tr ?_;refine HT.done (by kernel_rfl) ?_;have HEND:=Hi (HBd.out.trans (hz7.mono HBd.out.size));clear hZ0 hb5 hz7 hb7 hz6 hb6;go_wp2_with fail
   go_ret;exact ⟨rfl,HEND.out⟩
theorem worth{w0:World}{b q:Nat}{kn:Kw}(m:Nat)(z:Tz)(h:SizeOf.sizeOf z < m)(w:World)(k a:Int)(s:Bs)(n:Nat)(A:Option Addr)(la cA:Nat)(B:Option Addr)(lb cB:Nat)(hb:Below w0.heap.size w0 w)(hM:MpW w b q kn)(hT:TrV w0 z k a s n A la cA B lb cB)(hst:strB (looB kn) z=none) :
  Calls Tryz.prog 92 #[nzA k a s n A la cA B lb cB,nuV b] w (WoP w (worB (looB kn) z)):=worthQ (mpI b q kn) m z h w k a s n A la cA B lb cB hb hM hT hst
end Go.Proofs.YtdhoemlomojfaaaGreatDoor.Fl
namespace Go.Proofs.YtdhoemlomojfaaaGreatDoor.Fl
open Go Go.ChangeShapes Go.WideShapes Go.ChangeAt Go.RowKit Lx Args Pa Sh Go.Proofs.YtdhoemlomojfaaaGreatDoor.Nm
section
def MuP(w:World)(kn:Kw)(o:Option (Int×Int×Bs))(e:Ending)(w':World):Prop:=
 match o with
 | none=>e = .returned (.tuple #[])∧Below w.heap.size w w'
 | some x=>e=panF x.2.1 (badB kn x)∧Below w.heap.size w w'
theorem fFa0(a b:Bool)(n:Int)(w:World):(Instr.field 143 (.agg #[.bool a,.bool b,.int .u32 n]) 0).run Tryz.prog w = .ok (.bool a) w:=by kernel_rfl
attribute [local go_sem] fFa0
theorem mustBe{w0:World}{b q:Nat}{kn:Kw}(w:World)(z:Tz)(k a:Int)(s:Bs)(n:Nat)(A:Option Addr)(la cA:Nat)(B:Option Addr)(lb cB:Nat)(hb:Below w0.heap.size w0 w)(hM:MpW w b q kn)(hT:TrV w0 z k a s n A la cA B lb cB) :
  Calls Tryz.prog 91 #[nzA k a s n A la cA B lb cB,.map (some b)] w (MuP w kn (strB (looB kn) z)):=by
 obtain ⟨w1,hw1,hb1,hX1,hs1⟩:=a_box w (nB k a s n A la cA B lb cB);have hM1:=hM.upd (Upd.of_below hb1 fun _=>False) id;have HC:=Hi (stray (w0:=w0) (b:=b) (q:=q) (kn:=kn) (SizeOf.sizeOf z+1) z (Nat.lt_succ_self _) w1 k a s n A la cA B lb cB (hb.trans (hb1.mono hb.size)) hM1 hT);have HB1:=Hi hb1;have HW1:=Hi hw1;have HM1:=Hi hM1;have hmf:∀ (fn:Fn) (first cap:Array Value) (w:World),(Instr.makeFunc fn first cap).run Tryz.prog w = .ok (.func fn first cap) w:=fun _ _ _ _=>rfl
 obtain ⟨⟨e0,e1,e2,e3,e4,e5⟩,z0,z1,z2,z3,z4,z5⟩:=Blk.c6 hX1;obtain ⟨res,hres⟩:∃ res,strB (looB kn) z=res:=⟨_,rfl⟩;rw [hres] at HC ⊢;clear hb hM hT hw1 hb1 hX1 hs1 hM1 hres;go_enter Tryz.func91,Tryz.ntmps91;go_wp2_with fail
 rw [HW1.out];refine (show Calls Tryz.prog 118 #[nzA k a s n A la cA B lb cB,nuV b] w1 _ from HC.out).mono ?_;intro e w2 h2;clear e0 e1 e2 e3 e4 e5 z0 z1 z2 z3 z4 z5;cases res with
 | none=>
  obtain ⟨rfl,hb2⟩:=h2;obtain ⟨w3,hw3,hb3,hX3,hs3⟩:=a_box w2 #[.int .i64 0,.string ⟨#[]⟩,.int .u32 0,.int .i64 0,.slice none 0 0,.slice none 0 0];have HB3:=Hi (HB1.out.trans ((hb2.trans (hb3.mono hb2.size)).mono HB1.out.size));have HW3:=Hi hw3;clear hb2 hw3 hb3 hX3 hs3;go_upto_region 2 with fail
  rw [HW3.out];go_wp2_with fail
  first | go_end0 | skip
  all_goals first | exact ⟨rfl,HB3.out⟩ | exact bodyPost_ret (results_none rfl _ _ _) rfl ⟨rfl,HB3.out⟩
 | some x=>
  obtain ⟨k2,a2,s2⟩:=x;obtain ⟨hs2,⟨n2,A2,la2,cA2,B2,lb2,cB2,rfl⟩,hb2⟩:=h2;obtain ⟨w3,hw3,hb3,hX3,hs3⟩:=a_box w2 (nB k2 a2 s2 n2 A2 la2 cA2 B2 lb2 cB2);have hb13:=hb2.trans (hb3.mono hb2.size);have HB3:=Hi (HB1.out.trans (hb13.mono HB1.out.size));have HW3:=Hi hw3;have hrun:=mpw_look1 (HM1.out.upd (Upd.of_below hb13 fun _=>False) id) hs2;unfold wkV at hrun;rw [wkAt_sec] at hrun;obtain ⟨⟨e0,e1,e2,e3,e4,e5⟩,z0,z1,z2,z3,z4,z5⟩:=Blk.c6 hX3;obtain ⟨er,her⟩:∃ er,badB kn (k2,a2,s2)=er:=⟨_,rfl⟩;have hbad:(if k2 = 1∧secB kn s2=true then 130 else 120)=er:=her;have HER:=Hi her;have HBAD:=Hi hbad;clear hb2 hw3 hb3 hX3 hs3 hb13 her hbad;generalize (wkAt kn s2).loo.isSome=l1 at hrun;generalize loN (wkAt kn s2).loo=l2 at hrun;generalize secB kn s2=sc at hrun HBAD;by_cases hk1:k2 = 1
  ·subst hk1;cases sc with
   | true=>
    have HE2:=Hi (show 130=er from HBAD.out);go_upto_region 2 with fail
    rw [HW3.out];go_wp2_with fail
    exact ⟨rfl,by show panF a2 130=panF a2 (badB kn (1,a2,s2));rw [HER.out,HE2.out],HB3.out⟩
   | false=>
    have HE2:=Hi (show 120=er from HBAD.out);go_upto_region 2 with fail
    rw [HW3.out];go_wp2_with fail
    exact ⟨rfl,by show panF a2 120=panF a2 (badB kn (1,a2,s2));rw [HER.out,HE2.out],HB3.out⟩
  ·have hi:(k2==1)=false:=by simpa using hk1
   have HE2:=Hi (show 120=er by rw [←HBAD.out,if_neg (fun h=>hk1 h.1)]);clear hk1 hrun;go_upto_region 2 with fail
   rw [HW3.out];go_wp2_with fail
   exact ⟨rfl,by show panF a2 120=panF a2 (badB kn (k2,a2,s2));rw [HER.out,HE2.out],HB3.out⟩
end
/-! The first parts, and those behind. -/
def FCut(w:World)(A:Option Addr)(n k:Nat)(e:Ending)(w':World):Prop:=∃ A1 c1 A2 c2,e = .returned (.tuple #[.slice A1 (min k n) c1,.slice A2 (n - k) c2])∧(min k n≤c1∧c1≤maxLen)∧(n - k≤c2∧c2≤maxLen)∧(∀ W xs,Lies W A xs→Lies W A1 xs)∧(0 < n - k→∀ W xs,Lies W A xs→Lies W A2 (xs.drop (k * 6)))∧Below w.heap.size w w'
theorem fcut(w:World)(A:Option Addr)(n c k:Nat)(hn:n≤c)(hc:c≤maxLen)(hk:k≤2) :
  Calls Tryz.prog 58 #[.slice A n c,.int .i64 (k:Int)] w (FCut w A n k):=by
 have hcm:c≤9223372036854775807:=hc;have HC:=Hi hc;rcases Nat.lt_or_ge n k with hlt | hge
 ·have h1:(n:Int) < (k:Int):=by omega
  have h2:(0:Int)≤(n:Int):=by omega
  have h3:(n:Int)≤(c:Int):=by omega
  have hm:min k n=n:=by omega
  have hd:n - k = 0:=by omega
  go_enter Tryz.func58,Tryz.ntmps58;go_wp2_with fail
  go_region
  go_wp2_with fail
  all_goals (
   (try simp only [show min (k:Int) (n:Int)=(n:Int) by omega,Int.toNat_natCast,Nat.sub_self])
   go_ret2
   unfold FCut;rw [hm,hd];exact ⟨_,_,_,_,rfl,⟨by omega,by unfold maxLen;omega⟩,⟨Nat.zero_le _,by unfold maxLen;omega⟩,fun _ _ h=>h,fun h=>absurd h (Nat.lt_irrefl _),Below.drew (Below.refl _ _)⟩)
 ·have h1:¬ (n:Int) < (k:Int):=by omega
  have h2:(0:Int)≤(k:Int):=by omega
  have h3:(k:Int)≤(c:Int):=by omega
  have h4:(k:Int)≤(n:Int):=by omega
  have hm:min k n=k:=by omega
  go_enter Tryz.func58,Tryz.ntmps58;go_wp2_with fail
  go_region
  go_wp2_with fail
  all_goals (
   (try simp only [show min (k:Int) (n:Int)=(k:Int) by omega,Int.toNat_natCast])
   go_ret2
   unfold FCut;rw [hm];refine ⟨_,_,_,_,rfl,⟨by omega,by unfold maxLen;omega⟩,⟨by omega,by unfold maxLen;omega⟩,fun _ _ h=>?_,fun hd W xs hL=>?_,Below.drew (Below.refl _ _)⟩
   ·first | exact h | exact lies_0 h | (split <;> first | exact h | exact lies_0 h)
   ·first | exact lies_add hL (k * 6) | (exfalso;omega))
end Go.Proofs.YtdhoemlomojfaaaGreatDoor.Fl
