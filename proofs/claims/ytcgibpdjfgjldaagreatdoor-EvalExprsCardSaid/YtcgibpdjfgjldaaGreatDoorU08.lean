/- DERIVED. FlStr, Squash, FlWo, ShMade, EvSpec, EvAt. By an AI agent. -/
import Derived.Test.YtcgibpdjfgjldaaGreatDoorU07
set_option maxRecDepth 100000
set_option maxHeartbeats 8000000
set_option linter.unusedVariables false
set_option linter.unusedSimpArgs false
namespace Go.Proofs.YtcgibpdjfgjldaaGreatDoor
namespace Fl
open Go Go.ChangeShapes Go.WideShapes Go.ChangeAt Go.RowKit Lx Args Pa Sh Go.Proofs.YtcgibpdjfgjldaaGreatDoor.Nm
abbrev zNV:Value:=.agg #[.int .i64 0,.string ⟨#[]⟩,.int .u32 0,.int .i64 0,.slice none 0 0,.slice none 0 0]
def StrP(w:World)(r:Option (Int×Int×Bs))(e:Ending)(w':World):Prop:=
 match r with
 | none=>e = .returned (.tuple #[zNV,.bool false])/\Below w.heap.size w w'
 | some (k,a,s)=>s.length<=maxLen/\(∃ (n:Nat) (A:Option Addr) (la cA:Nat) (B:Option Addr) (lb cB:Nat),e = .returned (.tuple #[nzA k a s n A la cA B lb cB,.bool true]))/\Below w.heap.size w w'
theorem szNd:(Tryz.prog.info? 26).map (·.size)=some 6:=V1
theorem q4G{fn:Func}{p q:Tmp}{tx:TypeId}(h:fn.results = #[.cell p tx,.tmp q]){P:Program}(tmps:Array Value)(w:World)(g1:Nat)(v1:Value)
  (hp:tmps.getD p undef = .pointer (some ⟨g1,0,none⟩)) (h1:(loadVar tx ⟨g1,0,none⟩).run P w = .ok v1 w) :
  (results fn tmps).run P w = .ok (.tuple #[v1,tmps.getD q undef]) w:=by
 have hp':tmps[p]?.getD undef = .pointer (some ⟨g1,0,none⟩):=VF;simp [results,h,hp',asAddr,h1]
theorem resStr{g:Nat}{n:Array Value}{W:World}(hN:Blk W g 26 n)(hs:some 6=some n.size)(tmps:Array Value)(h4:tmps.getD 4 undef = .pointer (some ⟨g,0,none⟩)) :
  (results Tryz.f72 tmps).run Tryz.prog W = .ok (.tuple #[.agg n,tmps.getD 5 undef]) W:=
 q4G rfl tmps W g (.agg n) h4 (run_loadVar_row W g 26 26 n (0,0) _ hN Tryz.underlying26 rfl (szNd.trans hs))
theorem boxes2(w:World)(cs:Array Value):∃ w0,(w.alloc (.cells cs 26)).alloc (.cells #[.int .i64 0,.string ⟨#[]⟩,.int .u32 0,.int .i64 0,.slice none 0 0,.slice none 0 0] 26)=w0/\Below w.heap.size w w0/\w0.heap.size=w.heap.size+2 /\
  Blk w0 w.heap.size 26 cs/\Blk w0 (w.heap.size+1) 26 #[.int .i64 0,.string ⟨#[]⟩,.int .u32 0,.int .i64 0,.slice none 0 0,.slice none 0 0]:=by
 refine ⟨_,rfl,((Below.refl _ _).alloc (Nat.le_refl _) _).alloc V3 _,V3,(Blk.new _ _ _).alloc _,?_⟩;have h:=Blk.new (w.alloc (.cells cs 26)) 26 #[.int .i64 0,.string ⟨#[]⟩,.int .u32 0,.int .i64 0,.slice none 0 0,.slice none 0 0];have e:(w.alloc (.cells cs 26)).heap.size=w.heap.size+1:=V3;rw [e] at h;exact h
abbrev put6(w:World)(g:Nat)(a b c d e f:Value):World:=(((((w.setCell ⟨g,0,none⟩ a).setCell ⟨g,1,none⟩ b).setCell ⟨g,2,none⟩ c).setCell ⟨g,3,none⟩ d).setCell ⟨g,4,none⟩ e).setCell ⟨g,5,none⟩ f
theorem q2v{w:World}{g:Nat}{t:TypeId}{a' b' c' d' e' f':Value}(h:Blk w g t #[a',b',c',d',e',f'])(a b c d e f:Value):Blk (put6 w g a b c d e f) g t #[a,b,c,d,e,f]:=(((((h.set 0 a).set 1 b).set 2 c).set 3 d).set 4 e).set 5 f
theorem q1E{w:World}{g B:Nat}(hB:B<=g){W:World}(h:Below B W w)(a b c d e f:Value):Below B W (put6 w g a b c d e f):=
 (((((h.setCell (p:=⟨g,0,none⟩) hB a).setCell (p:=⟨g,1,none⟩) hB b).setCell (p:=⟨g,2,none⟩) hB c).setCell (p:=⟨g,3,none⟩) hB d).setCell (p:=⟨g,4,none⟩) hB e).setCell (p:=⟨g,5,none⟩) hB f
theorem q0O(lo:Lo)(x:Tz)(l:List Tz):strBs lo (x :: l)=match strB lo x with | some e=>some e | none=>strBs lo l:=by
 conv=>lhs;unfold strBs
 cases strB lo x <;> rfl
theorem strayQ{w0:World}{q:Bool×Nat}{lo:Lo}{I:World->Prop}(hI:NuI q lo I):∀ (m:Nat) (z:Tz),SizeOf.sizeOf z < m->∀ (w:World) (k a:Int) (s:Bs) (n:Nat) (A:Option Addr) (la cA:Nat) (B:Option Addr) (lb cB:Nat),Below w0.heap.size w0 w->I w->TrV w0 z k a s n A la cA B lb cB ->
  Calls Tryz.prog 72 #[nzA k a s n A la cA B lb cB,nvQ q] w (StrP w (strB (lo) z))
 | 0,z,h=>absurd h (Nat.not_lt_zero _)
 | m+1,.mk k1 a1 s1 n1 ps l,hm=>fun w k a s n A la cA B lb cB hb hM hT=>by
  obtain ⟨rfl,rfl,rfl,rfl,rfl,rfl,hP,hs,hn,-,-,-,-⟩:=hT.parts;obtain ⟨w1,hw1,hb1,hs1,hX1,hR1⟩:=boxes2 w (nB k a s n A l.length cA B ps.length cB);have hM1:=hI.mono hM hb1;have HFI:=Hi (fitsQ w1 q lo I hI hM1 k a s hs n A l.length cA B ps.length cB);have hstr:strB (lo) (.mk k a s n ps l)=if fitB (lo) k s l.length=true then strBs (lo) l else some (k,a,s):=by conv=>lhs;unfold strB
  rw [hstr];have IH:=Hi (strayQ (w0:=w0) hI m);have HB1:=Hi hb1;have HW1:=Hi hw1;have HX1:=Hi hX1;have HR1:=Hi hR1;have HM1:=Hi hM1;have HP:=Hi hP;have HS:=Hi hs;have HB0:=Hi (hb.trans (hb1.mono hb.size));have HM:=Hi hm;have HSZ:=Hi hs1;obtain ⟨⟨e0,e1,e2,e3,e4,e5⟩,z0,z1,z2,z3,z4,z5⟩:=Blk.c6 hX1;generalize fitB (lo) k s l.length=fi at HFI ⊢;obtain ⟨res,hres⟩:∃ res,(if fi=true then strBs (lo) l else some (k,a,s))=res:=⟨_,rfl⟩;rw [hres];have HRES:=Hi hres;clear hres;obtain ⟨g0,hg0⟩:∃ g0,w.heap.size=g0:=⟨_,rfl⟩;have HG0:=Hi hg0;rw [hg0] at e0 e1 e2 e3 e4 e5 z0 z1 z2 z3 z4 z5 HX1 HR1;clear hb hM hT hP hb1 hw1 hX1 hR1 hM1 hstr hm hs1 hs hn;go_enter Tryz.func72,Tryz.ntmps72;go_wp2_with fail
  rw [HW1.out];refine (show Calls Tryz.prog 105 #[nzA k a s n A l.length cA B ps.length cB,nvQ q] w1 _ from HFI.out).mono ?_;rintro e w2 ⟨rfl,hb2⟩;have hX2:=HX1.out.below hb2 HX1.out.lt;have hR2:=HR1.out.below hb2 HR1.out.lt;clear e0 e1 e2 e3 e4 e5 z0 z1 z2 z3 z4 z5;obtain ⟨⟨e0,e1,e2,e3,e4,e5⟩,z0,z1,z2,z3,z4,z5⟩:=Blk.c6 hX2;have HB2:=Hi (HB1.out.trans (hb2.mono HB1.out.size));have HR2:=Hi hR2;have HX2:=Hi hX2;have HM2:=Hi (hI.mono HM1.out hb2);have HB02:=Hi (HB0.out.trans (hb2.mono HB0.out.size));obtain ⟨⟨y0,y1,y2,y3,y4,y5⟩,x0,x1,x2,x3,x4,x5⟩:=Blk.c6 hR2;have hgl:=hR2.lt;clear hb2 hX2 hR2;cases fi with
  | false=>
   have HR9:=Hi (show some (k,a,s)=res from HRES.out);clear HRES;have HQ:=Hi (q2v HR2.out (.int .i64 k) (.string ⟨s.toArray⟩) (.int .u32 (n:Int)) (.int .i64 a) (.slice A l.length cA) (.slice B ps.length cB));have HEND:=Hi (show StrP w (some (k,a,s)) (.returned (.tuple #[nzA k a s n A l.length cA B ps.length cB,.bool true])) (put6 w2 (g0+1) (.int .i64 k) (.string ⟨s.toArray⟩) (.int .u32 (n:Int)) (.int .i64 a) (.slice A l.length cA) (.slice B ps.length cB)) from
    ⟨HS.out,⟨n,A,l.length,cA,B,ps.length,cB,rfl⟩,q1E VG HB2.out _ _ _ _ _ _⟩)
   rw [HR9.out] at HEND;go_wp2_with fail
   exact bodyPost_ret (v:=.tuple #[nzA k a s n A l.length cA B ps.length cB,.bool true]) (resStr HQ.out rfl _ rfl) rfl HEND.out
  | true=>
   have HR9:=Hi (show strBs (lo) l=res from HRES.out);clear HRES;clear y0 y1 y2 y3 y4 y5 x0 x1 x2 x3 x4 x5;have hlm:l.length<=9223372036854775807:=Nat.le_trans HP.out.le HP.out.cap;go_wp2_with fail
   go_loopw [18] (fun vi wr=>∃ i:Nat,i<=l.length/\vi = .int .i64 (i:Int)/\Hid (Below w.heap.size w wr)/\Hid (Below w0.heap.size w0 wr)/\Hid (I wr)/\Hid (Blk wr (g0+1) 26 #[.int .i64 0,.string ⟨#[]⟩,.int .u32 0,.int .i64 0,.slice none 0 0,.slice none 0 0])/\Hid (strBs (lo) (l.drop i)=res)) (fun vi _=>l.length - (intOf vi).toNat)
   case atStart=>exact ⟨0,V0,rfl,HB2,HB02,HM2,HR2,HR9⟩
   case round=>
    obtain ⟨i,hi,rfl,HB,HB0r,HMr,HR,HQ⟩:=hrel;by_cases hlt:i < l.length
    ·have hil:(i:Int) < (l.length:Int):=by omega
     obtain ⟨y,hy⟩:∃ y,l[i]?=some y:=⟨_,List.getElem?_eq_getElem hlt⟩;obtain ⟨bb,o,k',a',s',n',A',la',cA',B',lb',cB',hA,hTy,hbl,g0',g1,g2,g3,g4,g5⟩:=HP.out.at_ HB0r.out hy;subst hA;obtain ⟨wb,hwb,hbb,hXb,hsb⟩:=q05 wr (nB k' a' s' n' A' la' cA' B' lb' cB');have hsy:SizeOf.sizeOf y < m:=V3K;have hC:=IH.out y hsy wb k' a' s' n' A' la' cA' B' lb' cB' (HB0r.out.trans (hbb.mono HB0r.out.size)) (hI.mono HMr.out hbb) hTy;have hq:=HQ.out;rw [drop_at hy,q0O] at hq;obtain ⟨⟨e0,e1,e2,e3,e4,e5⟩,z0,z1,z2,z3,z4,z5⟩:=Blk.c6 hXb;have HC:=Hi hC;have HWB:=Hi hwb;have HQ2:=Hi hq;have HBB:=Hi hbb;have hbl2:bb < wr.heap.size:=Nat.lt_of_lt_of_le hbl HB0r.out.size;have HXb:=Hi hXb;have HSB:=Hi hsb;clear hC hwb hbb hXb hq hTy hsy hy hsb;generalize strB (lo) y=r2 at HC HQ2;go_wp2_with fail
     rw [HWB.out];refine (show Calls Tryz.prog 72 #[nzA k' a' s' n' A' la' cA' B' lb' cB',nvQ q] wb _ from HC.out).mono ?_;intro e w4 h4;clear e0 e1 e2 e3 e4 e5 z0 z1 z2 z3 z4 z5;cases r2 with
     | some r2=>
      obtain ⟨k2,a2,s2⟩:=r2;obtain ⟨hs2,⟨n2,A2,la2,cA2,B2,lb2,cB2,rfl⟩,hb4⟩:=h4;have hb4':=HBB.out.trans (hb4.mono HBB.out.size);have hR4:=HR.out.below hb4' HR.out.lt;obtain ⟨w5,hw5,hb5,hX5,hs5⟩:=q05 w4 (nB k2 a2 s2 n2 A2 la2 cA2 B2 lb2 cB2);have hR5:=hR4.below hb5 hR4.lt;obtain ⟨⟨e0,e1,e2,e3,e4,e5⟩,z0,z1,z2,z3,z4,z5⟩:=Blk.c6 hX5;obtain ⟨⟨y0,y1,y2,y3,y4,y5⟩,x0,x1,x2,x3,x4,x5⟩:=Blk.c6 hR5;have HQ5:=Hi (q2v hR5 (.int .i64 k2) (.string ⟨s2.toArray⟩) (.int .u32 (n2:Int)) (.int .i64 a2) (.slice A2 la2 cA2) (.slice B2 lb2 cB2));have HEND:=Hi (show StrP w (some (k2,a2,s2)) (.returned (.tuple #[nzA k2 a2 s2 n2 A2 la2 cA2 B2 lb2 cB2,.bool true])) (put6 w5 (g0+1) (.int .i64 k2) (.string ⟨s2.toArray⟩) (.int .u32 (n2:Int)) (.int .i64 a2) (.slice A2 la2 cA2) (.slice B2 lb2 cB2)) from
       ⟨hs2,⟨n2,A2,la2,cA2,B2,lb2,cB2,rfl⟩,q1E VG (HB.out.trans ((hb4'.trans (hb5.mono hb4'.size)).mono HB.out.size)) _ _ _ _ _ _⟩)
      have HQ3:=Hi (show some (k2,a2,s2)=res from HQ2.out);have HW5:=Hi hw5;have q1:g0+1 < w5.heap.size:=hR5.lt;have q2:¬ g0+1=w4.heap.size:=by have:=hR4.lt;omega
      have q3:¬ w4.heap.size=g0+1:=by have:=hR4.lt;omega
      have q4:w4.heap.size < w5.heap.size:=hX5.lt;rw [HQ3.out] at HEND;clear hb4 hb4' hR4 hb5 hX5 hs5 hR5 hw5;go_upto_region 7 with fail
      rw [HW5.out];go_wp2_with fail
      exact bodyPost_ret (v:=.tuple #[nzA k2 a2 s2 n2 A2 la2 cA2 B2 lb2 cB2,.bool true]) (resStr HQ5.out rfl _ rfl) rfl HEND.out
     | none=>
      obtain ⟨rfl,hb4⟩:=h4;have hb4':=HBB.out.trans (hb4.mono HBB.out.size);obtain ⟨w5,hw5,hb5,hX5,hs5⟩:=q05 w4 #[.int .i64 0,.string ⟨#[]⟩,.int .u32 0,.int .i64 0,.slice none 0 0,.slice none 0 0];have hb5':=hb4'.trans (hb5.mono hb4'.size);have H1:=Hi (HB.out.trans (hb5'.mono HB.out.size));have H2:=Hi (HB0r.out.trans (hb5'.mono HB0r.out.size));have H3:=Hi (hI.mono HMr.out hb5');have H4:=Hi (HR.out.below hb5' HR.out.lt);have HQ3:=Hi (show strBs (lo) (l.drop (i+1))=res from HQ2.out);have HW5:=Hi hw5;clear hb4 hb4' hb5 hX5 hs5 hw5 hb5';go_upto_region 7 with fail
      rw [HW5.out];go_wp2_with fail
      go_roundw
      case rel=>exact ⟨i+1,V0,V5,H1,H2,H3,H4,HQ3⟩
      case measure=>simp [intOf];omega
    ·obtain rfl:i=l.length:=by omega
     have hq:=HQ.out;rw [List.drop_length] at hq
     conv at hq=>lhs;unfold strBs
     have HQ2:=Hi hq;obtain ⟨⟨y0,y1,y2,y3,y4,y5⟩,x0,x1,x2,x3,x4,x5⟩:=Blk.c6 HR.out;have hgl:=HR.out.lt;have HQ5:=Hi (q2v HR.out (.int .i64 0) (.string ⟨#[]⟩) (.int .u32 0) (.int .i64 0) (.slice none 0 0) (.slice none 0 0));have HEND:=Hi (show StrP w none (.returned (.tuple #[zNV,.bool false])) (put6 wr (g0+1) (.int .i64 0) (.string ⟨#[]⟩) (.int .u32 0) (.int .i64 0) (.slice none 0 0) (.slice none 0 0)) from
      ⟨rfl,q1E VG HB.out _ _ _ _ _ _⟩)
     rw [HQ2.out] at HEND;clear hq;go_wp2_with fail
     exact bodyPost_ret (v:=.tuple #[zNV,.bool false]) (resStr HQ5.out rfl _ rfl) rfl HEND.out
theorem stray{w0:World}{b q:Nat}{kn:Kw}(m:Nat)(z:Tz)(h:SizeOf.sizeOf z < m)(w:World)(k a:Int)(s:Bs)(n:Nat)(A:Option Addr)(la cA:Nat)(B:Option Addr)(lb cB:Nat)(hb:Below w0.heap.size w0 w)(hM:MpW w b q kn)(hT:TrV w0 z k a s n A la cA B lb cB) :
  Calls Tryz.prog 72 #[nzA k a s n A la cA B lb cB,nuV b] w (StrP w (strB (looB kn) z)):=strayQ (mpI b q kn) m z h w k a s n A la cA B lb cB hb hM hT
end Fl
namespace HT
open Go
section
variable {P : Program} {ops : Array Oper} {Q : Exit -> Act -> World -> Prop} {md : Region.Mode} {Z S : World -> Prop} {st : List Nat}
theorem tr {p : Prop} : p -> True := fun _ => trivial
theorem pS : (∀ (a : Act) (d : Nat) (v : Value), a.put (some d) v = { a with tmps := a.tmps.setIfInBounds d v }) /\ (∀ (l : List Value) (i : Nat) (v : Value), l.toArray.setIfInBounds i v = (l.set i v).toArray) /\ (∀ (l : List Oper) (i : Nat) (h : i < l.toArray.size), l.toArray[i] = l[i]'(by simpa using h)) /\
    (∀ (a b : Value) (l : List Value), (a :: l).set 0 b = b :: l) /\ (∀ (a b : Value) (l : List Value) (n : Nat), (a :: l).set (n + 1) b = a :: l.set n b) /\
    (∀ (a : Oper) (l : List Oper) (h : 0 < (a :: l).length), (a :: l)[0] = a) /\ (∀ (a : Oper) (l : List Oper) (n : Nat) (h : n + 1 < (a :: l).length), (a :: l)[n + 1] = l[n]'(Nat.lt_of_succ_lt_succ h)) /\ (∀ (a : Act) (v : Value), a.put none v = a) :=
  ⟨fun _ _ _ => rfl, fun _ _ _ => by simp, fun _ _ _ => rfl, fun _ _ _ => rfl, fun _ _ _ _ => rfl, fun _ _ _ => rfl, fun _ _ _ _ => rfl, fun _ _ => rfl⟩
theorem tk (i : Nat) {oi : Oper} {v : Value} {f : Nat} {listed : Array Bool} {a a' : Act} {w : World} (hi : ops[i]? = some oi) (hv : ∀ w', Z w' -> (execOp a.eval oi).run P w' = .ok (.value v) w') (hZ : Z w) (hS : none_ st listed -> S w)
    (h : anyT P md ops Q Z S st f (listed.setIfInBounds i true) a' w) (hs : Region.noSelect ops = true := by kernel_rfl) (hf : Region.free md ops listed i = true := by kernel_rfl) (hr : (Region.ready md ops listed).contains i = true := by kernel_rfl) (hist : st.contains i = false := by kernel_rfl)
    (hQ : ∀ c a w, Q (.panic c) (a.put oi.dst v) w -> Q (.panic c) a w := by exact fun _ _ _ h => h) (hw : Region.wanted oi (yielded ops a.tmps) = true := by rfl) (ha : a.put oi.dst v = a' := by simp only [HT.pS] <;> rfl) : anyT P md ops Q Z S st (f + 1) listed a w :=
  takeP hi hs hf hr hist hQ (.inl ⟨hw, hv⟩) hZ hS (ha ▸ h)
theorem tm (i : Nat) {oi : Oper} {v : Value} {f : Nat} {listed : Array Bool} {a a' : Act} {w : World} (hi : ops[i]? = some oi) (hZ : Z w) (hS : none_ st listed -> S w)
    (h : anyT P md ops Q Z S st f (listed.setIfInBounds i true) a' w) (hv : ∀ w', Z w' -> (execOp a.eval oi).run P w' = .ok (.value v) w' := by (intro v hSw; clear hSw; go_simp; try with_reducible rfl)) (hs : Region.noSelect ops = true := by kernel_rfl) (hf : Region.free md ops listed i = true := by kernel_rfl) (hr : (Region.ready md ops listed).contains i = true := by kernel_rfl) (hist : st.contains i = false := by kernel_rfl)
    (hQ : ∀ c a w, Q (.panic c) (a.put oi.dst v) w -> Q (.panic c) a w := by exact fun _ _ _ h => h) (hw : Region.wanted oi (yielded ops a.tmps) = true := by rfl) (ha : a.put oi.dst v = a' := by simp only [HT.pS] <;> rfl) : anyT P md ops Q Z S st (f + 1) listed a w :=
  takeP hi hs hf hr hist hQ (.inl ⟨hw, hv⟩) hZ hS (ha ▸ h)
theorem sk (i : Nat) {oi : Oper} {f : Nat} {listed : Array Bool} {a a' : Act} {w : World} (hi : ops[i]? = some oi) (hZ : Z w) (hS : none_ st listed -> S w)
    (h : anyT P md ops Q Z S st f (listed.setIfInBounds i true) a' w) (hs : Region.noSelect ops = true := by kernel_rfl) (hf : Region.free md ops listed i = true := by kernel_rfl) (hr : (Region.ready md ops listed).contains i = true := by kernel_rfl) (hist : st.contains i = false := by kernel_rfl)
    (hQ : ∀ c a w, Q (.panic c) (a.put oi.dst undef) w -> Q (.panic c) a w := by exact fun _ _ _ h => h) (hw : Region.wanted oi (yielded ops a.tmps) = false := by rfl) (ha : a.put oi.dst undef = a' := by simp only [HT.pS] <;> rfl) : anyT P md ops Q Z S st (f + 1) listed a w :=
  takeP hi hs hf hr hist hQ (.inr ⟨hw, rfl⟩) hZ hS (ha ▸ h)
theorem ts (i : Nat) {oi : Oper} {v : Value} {f : Nat} {listed : Array Bool} {a a' : Act} {w : World} (hi : ops[i]? = some oi) (hv : ∀ w', S w' -> (execOp a.eval oi).run P w' = .ok (.value v) w') (hZ : Z w) (hS : S w)
    (h : anyT P md ops Q Z S st f (listed.setIfInBounds i true) a' w) (hs : Region.noSelect ops = true := by kernel_rfl) (hf : Region.free md ops listed i = true := by kernel_rfl) (hr : (Region.ready md ops listed).contains i = true := by kernel_rfl) (hwt : waitB md ops st i = true := by kernel_rfl) (hn : noneB st listed = true := by kernel_rfl) (hist : st.contains i = false := by kernel_rfl)
    (hQ : ∀ c a w, Q (.panic c) (a.put oi.dst v) w -> Q (.panic c) a w := by exact fun _ _ _ h => h) (hw : Region.wanted oi (yielded ops a.tmps) = true := by rfl) (ha : a.put oi.dst v = a' := by simp only [HT.pS] <;> rfl) : anyT P md ops Q Z S st (f + 1) listed a w :=
  take hi hs hf hr hwt hn hist hQ (.inl ⟨hw, hv⟩) hZ hS (ha ▸ h)
theorem tgm (i : Nat) {oi : Oper} {v : Value} {f : Nat} {listed : Array Bool} {a a' : Act} {w : World} (hi : ops[i]? = some oi) (hZ : Z w)
    (h : anyT P md ops Q Z S st f (listed.setIfInBounds i true) a' w) (hv : ∀ w', Z w' -> (execOp a.eval oi).run P w' = .ok (.value v) w' := by (intro v hSw; clear hSw; go_simp; try with_reducible rfl)) (hs : Region.noSelect ops = true := by kernel_rfl) (hf : Region.free md ops listed i = true := by kernel_rfl) (hr : (Region.ready md ops listed).contains i = true := by kernel_rfl) (hist : st.contains i = false := by kernel_rfl) (hn : noneB st listed = false := by kernel_rfl)
    (hQ : ∀ c a w, Q (.panic c) (a.put oi.dst v) w -> Q (.panic c) a w := by exact fun _ _ _ h => h) (hw : Region.wanted oi (yielded ops a.tmps) = true := by rfl) (ha : a.put oi.dst v = a' := by simp only [HT.pS] <;> rfl) : anyT P md ops Q Z S st (f + 1) listed a w :=
  takeS hi hs hf hr hist hn hQ (.inl ⟨hw, hv⟩) hZ (ha ▸ h)
theorem m (i : Nat) {oi : Oper} {v : Value} {f : Nat} {listed : Array Bool} {a a' : Act} {w : World} (hZ : Z w) (h : anyT P md ops Q Z S st f (listed.setIfInBounds i true) a' w) (hi : ops[i]? = some oi := by rfl) (hS : none_ st listed -> S w := by exact HT.tr) (hv : ∀ w', Z w' -> (execOp a.eval oi).run P w' = .ok (.value v) w' := by (intro v hSw; clear hSw; go_simp; try with_reducible rfl)) (hs : Region.noSelect ops = true := by kernel_rfl) (hf : Region.free md ops listed i = true := by kernel_rfl) (hr : (Region.ready md ops listed).contains i = true := by kernel_rfl) (hist : st.contains i = false := by kernel_rfl)
    (hQ : ∀ c a w, Q (.panic c) (a.put oi.dst v) w -> Q (.panic c) a w := by exact fun _ _ _ h => h) (hw : Region.wanted oi (yielded ops a.tmps) = true := by rfl) (ha : a.put oi.dst v = a' := by simp only [HT.pS] <;> rfl) : anyT P md ops Q Z S st (f + 1) listed a w :=
  takeP hi hs hf hr hist hQ (.inl ⟨hw, hv⟩) hZ hS (ha ▸ h)
theorem k (i : Nat) {oi : Oper} {v : Value} {f : Nat} {listed : Array Bool} {a a' : Act} {w : World} (hi : ops[i]? = some oi) (hv : ∀ w', Z w' -> (execOp a.eval oi).run P w' = .ok (.value v) w') (hZ : Z w) (h : anyT P md ops Q Z S st f (listed.setIfInBounds i true) a' w) (hS : none_ st listed -> S w := by exact HT.tr) (hs : Region.noSelect ops = true := by kernel_rfl) (hf : Region.free md ops listed i = true := by kernel_rfl) (hr : (Region.ready md ops listed).contains i = true := by kernel_rfl) (hist : st.contains i = false := by kernel_rfl)
    (hQ : ∀ c a w, Q (.panic c) (a.put oi.dst v) w -> Q (.panic c) a w := by exact fun _ _ _ h => h) (hw : Region.wanted oi (yielded ops a.tmps) = true := by rfl) (ha : a.put oi.dst v = a' := by simp only [HT.pS] <;> rfl) : anyT P md ops Q Z S st (f + 1) listed a w :=
  takeP hi hs hf hr hist hQ (.inl ⟨hw, hv⟩) hZ hS (ha ▸ h)
theorem s (i : Nat) {oi : Oper} {f : Nat} {listed : Array Bool} {a a' : Act} {w : World} (hZ : Z w) (h : anyT P md ops Q Z S st f (listed.setIfInBounds i true) a' w) (hi : ops[i]? = some oi := by rfl) (hS : none_ st listed -> S w := by exact HT.tr) (hs : Region.noSelect ops = true := by kernel_rfl) (hf : Region.free md ops listed i = true := by kernel_rfl) (hr : (Region.ready md ops listed).contains i = true := by kernel_rfl) (hist : st.contains i = false := by kernel_rfl)
    (hQ : ∀ c a w, Q (.panic c) (a.put oi.dst undef) w -> Q (.panic c) a w := by exact fun _ _ _ h => h) (hw : Region.wanted oi (yielded ops a.tmps) = false := by rfl) (ha : a.put oi.dst undef = a' := by simp only [HT.pS] <;> rfl) : anyT P md ops Q Z S st (f + 1) listed a w :=
  takeP hi hs hf hr hist hQ (.inr ⟨hw, rfl⟩) hZ hS (ha ▸ h)
end
end HT
namespace Fl
open Go Go.ChangeShapes Go.WideShapes Go.ChangeAt Go.RowKit Lx Args Pa Sh Go.Proofs.YtcgibpdjfgjldaaGreatDoor.Nm WMath
mutual
def worB(lo:Lo):Tz->BitVec 32
 | .mk k a s n _ l=>if k = 0 then BitVec.ofNat 32 n else if k = 1 then (lo s).getD 0 else if k = 2 then unB s (worL lo 0 l) else if k = 3 then boB s (worL lo 0 l) (worL lo 1 l) else shB s (worL lo 0 l) (worL lo 1 l)
def worL(lo:Lo):Nat->List Tz->BitVec 32
 | _,[]=>0
 | 0,x :: _=>worB lo x
 | i+1,_ :: l=>worL lo i l
end
theorem q1K(lo:Lo)(x:Tz)(l:List Tz):worL lo 0 (x :: l)=worB lo x:=by unfold worL;rfl
theorem q34(lo:Lo)(x y:Tz)(l:List Tz):worL lo 1 (x :: y :: l)=worB lo y:=by unfold worL;exact q1K lo y l
theorem q2J(lo:Lo)(k a:Int)(s:Bs)(n:Nat)(ps:List Bs)(l:List Tz):worB lo (.mk k a s n ps l)=if k = 0 then BitVec.ofNat 32 n else if k = 1 then (lo s).getD 0 else if k = 2 then unB s (worL lo 0 l) else if k = 3 then boB s (worL lo 0 l) (worL lo 1 l) else shB s (worL lo 0 l) (worL lo 1 l):=by conv=>lhs;unfold worB
theorem q5h{lo:Lo}{k a:Int}{s:Bs}{n:Nat}{ps:List Bs}{l:List Tz}(h:strB lo (.mk k a s n ps l)=none):fitB lo k s l.length=true/\strBs lo l=none:=by
 unfold strB at h;by_cases hf:fitB lo k s l.length=true
 ·rw [if_pos hf] at h;exact ⟨hf,h⟩
 ·rw [if_neg hf] at h;cases h
theorem q0s{lo:Lo}{x:Tz}{l:List Tz}(h:strBs lo (x :: l)=none):strB lo x=none/\strBs lo l=none:=by
 rw [q0O] at h;cases hx:strB lo x with
 | some e=>rw [hx] at h;cases h
 | none=>rw [hx] at h;exact ⟨rfl,h⟩
theorem Pts.cells{w0:World}{A:Option Addr}{c:Nat}{l:List Tz}(h:Pts w0 A c l){i:Nat}{y:Tz}(hy:l[i]?=some y) :
  ∃ b o k a s n A' la cA B lb cB,A=some ⟨b,o,none⟩/\TrV w0 y k a s n A' la cA B lb cB/\b < w0.heap.size/\∀ v,Below w0.heap.size w0 v->v.cell? ⟨b,o+i * 6,none⟩=some (.int .i64 k)/\v.cell? ⟨b,o+i * 6+1,none⟩=some (.string ⟨s.toArray⟩) /\
   v.cell? ⟨b,o+i * 6+2,none⟩=some (.int .u32 (n:Int))/\v.cell? ⟨b,o+i * 6+3,none⟩=some (.int .i64 a)/\v.cell? ⟨b,o+i * 6+4,none⟩=some (.slice A' la cA)/\v.cell? ⟨b,o+i * 6+5,none⟩=some (.slice B lb cB):=by
 obtain ⟨b,o,k,a,s,n,A',la,cA,B,lb,cB,h1,h2,h3,e0,e1,e2,e3,e4,e5⟩:=h.at_ (Below.refl _ _) hy;exact ⟨b,o,k,a,s,n,A',la,cA,B,lb,cB,h1,h2,h3,fun v hv=>⟨(hv.cell h3).trans e0,(hv.cell h3).trans e1,(hv.cell h3).trans e2,(hv.cell h3).trans e3,(hv.cell h3).trans e4,(hv.cell h3).trans e5⟩⟩
theorem worthQ{w0:World}{q:Bool×Nat}{lo:Lo}{I:World->Prop}(hI:NuI q lo I):∀ (m:Nat) (z:Tz),SizeOf.sizeOf z < m->∀ (w:World) (k a:Int) (s:Bs) (n:Nat) (A:Option Addr) (la cA:Nat) (B:Option Addr) (lb cB:Nat),Below w0.heap.size w0 w->I w->TrV w0 z k a s n A la cA B lb cB->strB lo z=none ->
  Calls Tryz.prog 73 #[nzA k a s n A la cA B lb cB,nvQ q] w (WoP w (worB lo z))
 | 0,z,h=>absurd h (Nat.not_lt_zero _)
 | m+1,.mk k1 a1 s1 n1 ps l,hm=>fun w k a s n A la cA B lb cB hb hM hT hst=>by
  obtain ⟨rfl,rfl,rfl,rfl,rfl,rfl,hP,hs,hn,-,-,-,-⟩:=hT.parts;obtain ⟨hfit,hsts⟩:=q5h hst;obtain ⟨w1,hw1,hb1,hX1,hs1⟩:=q05 w (nB k a s n A l.length cA B ps.length cB);have hM1:=hI.mono hM hb1;have IH:=Hi (worthQ (w0:=w0) hI m);have HB1:=Hi hb1;have HW1:=Hi hw1;have HX1':=Hi hX1;have HM1:=Hi hM1;have HP:=Hi hP;have HB0:=Hi (hb.trans (hb1.mono hb.size));have HM:=Hi hm;obtain ⟨⟨e0,e1,e2,e3,e4,e5⟩,z0,z1,z2,z3,z4,z5⟩:=Blk.c6 hX1;have HN:=Hi (hI.run w1 hM1 s hs);obtain ⟨res,hres⟩:∃ res,worB lo (.mk k a s n ps l)=res:=⟨_,rfl⟩;rw [hres];rw [q2J] at hres;have HRES:=Hi hres;have hgl:=hX1.lt;have HSTS:=Hi hsts;have HN32:=Hi hn;clear hb hM hT hP hb1 hw1 hX1 hM1 hm hs1 hs hres hst hsts hn;by_cases hk1:k = 1
  ·subst hk1;have HR:=Hi (show (lo s).getD 0=res from V0h);unfold NumP loN at HN;rw [HR.out] at HN;clear HRES IH hfit HR;generalize (lo s).isSome=q1 at HN;rcases q with ⟨_ | _,b⟩
   ·have hen:∀ w:World,(callFunc 149 #[.map (some b),.string ⟨s.toArray⟩]).run Tryz.prog w = .ok (.enter 149 #[.map (some b),.string ⟨s.toArray⟩]) w:=fun _=>by kernel_rfl
    show Calls Tryz.prog 73 #[nzA 1 a s n A l.length cA B ps.length cB,.func (.func 149) #[.map (some b)] #[]] w _;go_enter Tryz.func73,Tryz.ntmps73;go_upto_region 1 with fail
    rw [HW1.out];go_wp2_with fail
    refine (show Calls Tryz.prog 149 #[.map (some b),.string ⟨s.toArray⟩] w1 _ from HN.out).mono ?_;exact V1z
   ·have hen:∀ w:World,(callFunc 70 #[.string ⟨s.toArray⟩,.pointer (some ⟨b,0,none⟩)]).run Tryz.prog w = .ok (.enter 70 #[.string ⟨s.toArray⟩,.pointer (some ⟨b,0,none⟩)]) w:=fun _=>by kernel_rfl
    show Calls Tryz.prog 73 #[nzA 1 a s n A l.length cA B ps.length cB,.func (.func 70) #[] #[.pointer (some ⟨b,0,none⟩)]] w _;go_enter Tryz.func73,Tryz.ntmps73;go_upto_region 1 with fail
    rw [HW1.out];go_wp2_with fail
    refine (show Calls Tryz.prog 70 #[.string ⟨s.toArray⟩,.pointer (some ⟨b,0,none⟩)] w1 _ from HN.out).mono ?_;exact V1z
  go_enter Tryz.func73,Tryz.ntmps73;go_upto_region 1 with fail
  rw [HW1.out];by_cases hk0:k = 0
  ·subst hk0;have HR:=Hi (show BitVec.ofNat 32 n=res from V01);clear HRES HN IH hfit;go_wp2_with fail
   go_ret;refine ⟨?_,HB1.out⟩;exact V1j
  clear HN;by_cases hk2:k = 2
  ·subst hk2;have hl1:l.length = 1:=by
    unfold fitB at hfit;rw [if_neg V2,if_neg V2,if_pos rfl,Bool.and_eq_true] at hfit;exact of_decide_eq_true hfit.1
   obtain ⟨x,rfl⟩:∃ x,l=[x]:=by
    match l,hl1 with
    | [x],_=>exact ⟨x,rfl⟩
   obtain ⟨bb,o,k',a',s',n',A',la',cA',B',lb',cB',hA,hTy,hbl,hcel⟩:=HP.out.cells (i:=0) (y:=x) rfl;subst hA;simp only [Nat.zero_mul,Nat.add_zero] at hcel;have hsy:SizeOf.sizeOf x < m:=V3L;have hst1:=(q0s HSTS.out).1;have HCX:=Hi fun v (hv:Below w0.heap.size w0 v) (hMv:I v)=>IH.out x hsy v k' a' s' n' A' la' cA' B' lb' cB' hv hMv hTy hst1
   have HR:=Hi (show unB s (worB lo x)=res by rw [<-HRES.out,if_neg V2,if_neg V2,if_pos rfl,q1K]);generalize worB lo x=x2 at HCX HR;have HX0:=Hi hcel;have HLB:=Hi hbl;have HX1':=Hi (show Blk w1 w.heap.size 26 (nB 2 a s n (some ⟨bb,o,none⟩) 1 cA B ps.length cB) from HX1'.out);clear HRES hcel hTy hsy hfit IH hst1 hk1 hk0 hbl;go_wp2_with fail
   have hdr:Below w1.heap.size w1 w1.drew:=Below.drew (Below.refl _ _);obtain ⟨wd,hwd⟩:∃ v,w1.drew=v:=⟨_,rfl⟩;rw [hwd] at hdr;have HXd:=Hi (HX1'.out.below hdr HX1'.out.lt);have HBd:=Hi (HB1.out.trans (hdr.mono HB1.out.size));have HB0d:=Hi (HB0.out.trans (hdr.mono HB0.out.size));have HMd:=Hi (hI.mono HM1.out hdr);clear hdr e0 e1 e2 e3 e4 e5 z0 z1 z2 z3 z4 z5 hgl;have hZ0:Below wd.heap.size wd wd:=Below.refl _ _;refine HT.wp_region (Z:=fun w'=>Below wd.heap.size wd w') (S:=fun _=>True) (st:=[]) V1 ?_;rw [hwd];clear hwd;refine HT.k 0 rfl V7 hZ0 ?_;refine HT.k 1 rfl V7 hZ0 ?_;refine HT.k 2 rfl V7 hZ0 ?_;refine HT.k 3 rfl V7 hZ0 ?_;refine HT.m 4 hZ0 ?_;refine HT.k 5 rfl V1t hZ0 ?_;refine HT.m 6 hZ0 ?_;refine HT.one (i:=7) V1 rfl (fun K hK=>?_);go_simp;refine (show Calls Tryz.prog 73 #[nzA k' a' s' n' A' la' cA' B' lb' cB',nvQ q] wd _ from HCX.out wd HB0d.out HMd.out).mono ?_;rintro e w5 ⟨rfl,hb5⟩;(try dsimp only);refine hK.out _ _ hb5 trivial ?_;clear hK K;(try simp only [HT.pS]);refine HT.one (i:=8) V1 rfl (fun K hK=>?_);go_simp;refine (alone w5 s x2).mono ?_;rintro e w7 ⟨rfl,hb7⟩;have hz7:=hb5.trans (hb7.mono hb5.size);rw [HR.out];(try dsimp only);refine hK.out _ _ hz7 trivial ?_;clear hK K;(try simp only [HT.pS]);refine HT.m 9 hz7 ?_;refine HT.done V1 ?_;have HEND:=Hi (HBd.out.trans (hz7.mono HBd.out.size));clear hZ0 hb5 hz7 hb7;exact V1l
  have hk34:k = 3\/k = 4:=by
   by_cases h3:k = 3
   ·exact .inl h3
   by_cases h4:k = 4
   ·exact .inr h4
   exfalso;unfold fitB at hfit;rw [if_neg hk0,if_neg hk1,if_neg hk2,if_neg h3,if_neg h4] at hfit;cases hfit
  have hl2:l.length = 2:=by
   unfold fitB at hfit;rw [if_neg hk0,if_neg hk1,if_neg hk2] at hfit;rcases hk34 with rfl | rfl
   ·rw [if_pos rfl,Bool.and_eq_true] at hfit;exact of_decide_eq_true hfit.1
   ·rw [if_neg V2,if_pos rfl,Bool.and_eq_true] at hfit;exact of_decide_eq_true hfit.1
  obtain ⟨x,y,rfl⟩:∃ x y,l=[x,y]:=by
   match l,hl2 with
   | [x,y],_=>exact ⟨x,y,rfl⟩
  obtain ⟨bb,o,k',a',s',n',A',la',cA',B',lb',cB',hA,hTy,hbl,hcel⟩:=HP.out.cells (i:=0) (y:=x) rfl;subst hA;simp only [Nat.zero_mul,Nat.add_zero] at hcel;obtain ⟨bb2,o2,k2,a2,s2,n2,A2,la2,cA2,B2,lb2,cB2,hA2,hTy2,hbl2,hcel2⟩:=HP.out.cells (i:=1) (y:=y) rfl;simp only [Option.some.injEq,Addr.mk.injEq,and_true] at hA2;obtain ⟨rfl,rfl⟩:=hA2;simp only [Nat.one_mul,Nat.add_assoc,Nat.reduceAdd] at hcel2;obtain ⟨hst1,hst2⟩:=q0s HSTS.out;have hsy:SizeOf.sizeOf x < m:=by have:=q0n (k:=k) (a:=a) (n:=n) (s:=s) (ps:=ps) (l:=[x,y]) (i:=0) (x:=x) rfl;have:=HM.out;omega
  have hsy2:SizeOf.sizeOf y < m:=by have:=q0n (k:=k) (a:=a) (n:=n) (s:=s) (ps:=ps) (l:=[x,y]) (i:=1) (x:=y) rfl;have:=HM.out;omega
  have HCX:=Hi fun v (hv:Below w0.heap.size w0 v) (hMv:I v)=>IH.out x hsy v k' a' s' n' A' la' cA' B' lb' cB' hv hMv hTy hst1
  have HCY:=Hi fun v (hv:Below w0.heap.size w0 v) (hMv:I v)=>IH.out y hsy2 v k2 a2 s2 n2 A2 la2 cA2 B2 lb2 cB2 hv hMv hTy2 (q0s hst2).1
  rcases hk34 with rfl | rfl
  ·have HR:=Hi (show boB s (worB lo x) (worB lo y)=res by rw [<-HRES.out,if_neg V2,if_neg V2,if_neg V2,if_pos rfl,q1K,q34]);generalize worB lo x=x2 at HCX HR;generalize worB lo y=y2 at HCY HR;have HX0:=Hi hcel;have HX1:=Hi hcel2;have HLB:=Hi hbl;have HX1':=Hi (show Blk w1 w.heap.size 26 (nB 3 a s n (some ⟨bb,o,none⟩) 2 cA B ps.length cB) from HX1'.out);clear HRES hcel hcel2 hTy hTy2 hsy hsy2 hfit IH hst1 hst2 hk0 hk1 hk2 hbl hbl2 hl2;go_wp2_with fail
   have hdr:Below w1.heap.size w1 w1.drew:=Below.drew (Below.refl _ _);obtain ⟨wd,hwd⟩:∃ v,w1.drew=v:=⟨_,rfl⟩;rw [hwd] at hdr;have HXd:=Hi (HX1'.out.below hdr HX1'.out.lt);have HBd:=Hi (HB1.out.trans (hdr.mono HB1.out.size));have HB0d:=Hi (HB0.out.trans (hdr.mono HB0.out.size));have HMd:=Hi (hI.mono HM1.out hdr);clear hdr e0 e1 e2 e3 e4 e5 z0 z1 z2 z3 z4 z5 hgl;have hZ0:Below wd.heap.size wd wd:=Below.refl _ _;refine HT.wp_region (Z:=fun w'=>Below wd.heap.size wd w') (S:=fun _=>True) (st:=[]) V1 ?_;rw [hwd];clear hwd;refine HT.k 0 rfl V7 hZ0 ?_;refine HT.k 1 rfl V7 hZ0 ?_;refine HT.k 2 rfl V7 hZ0 ?_;refine HT.k 3 rfl V7 hZ0 ?_;refine HT.m 4 hZ0 ?_;refine HT.k 5 rfl V1t hZ0 ?_;refine HT.m 6 hZ0 ?_;refine HT.k 8 rfl V7 hZ0 ?_;refine HT.k 9 rfl V7 hZ0 ?_;refine HT.m 10 hZ0 ?_;refine HT.k 11 rfl V35 hZ0 ?_;refine HT.m 12 hZ0 ?_;refine HT.one (i:=7) V1 rfl (fun K hK=>?_);go_simp;refine (show Calls Tryz.prog 73 #[nzA k' a' s' n' A' la' cA' B' lb' cB',nvQ q] wd _ from HCX.out wd HB0d.out HMd.out).mono ?_;rintro e w5 ⟨rfl,hb5⟩;(try dsimp only);refine hK.out _ _ hb5 trivial ?_;clear hK K;(try simp only [HT.pS]);refine HT.one (i:=13) V1 rfl (fun K hK=>?_);go_simp;refine (show Calls Tryz.prog 73 #[nzA k2 a2 s2 n2 A2 la2 cA2 B2 lb2 cB2,nvQ q] w5 _ from HCY.out w5 (HB0d.out.trans (hb5.mono HB0d.out.size)) (hI.mono HMd.out hb5)).mono ?_;rintro e w6 ⟨rfl,hb6⟩;have hz6:=hb5.trans (hb6.mono hb5.size);(try dsimp only);refine hK.out _ _ hz6 trivial ?_;clear hK K;(try simp only [HT.pS]);refine HT.one (i:=14) V1 rfl (fun K hK=>?_);go_simp;refine (both w6 s x2 y2).mono ?_;exact V2G
  ·have HR:=Hi (show shB s (worB lo x) (worB lo y)=res by rw [<-HRES.out,if_neg V2,if_neg V2,if_neg V2,if_neg V2,q1K,q34]);generalize worB lo x=x2 at HCX HR;generalize worB lo y=y2 at HCY HR;have HX0:=Hi hcel;have HX1:=Hi hcel2;have HLB:=Hi hbl;have HX1':=Hi (show Blk w1 w.heap.size 26 (nB 4 a s n (some ⟨bb,o,none⟩) 2 cA B ps.length cB) from HX1'.out);clear HRES hcel hcel2 hTy hTy2 hsy hsy2 hfit IH hst1 hst2 hk0 hk1 hk2 hbl hbl2 hl2;go_wp2_with fail
   have hdr:Below w1.heap.size w1 w1.drew:=Below.drew (Below.refl _ _);obtain ⟨wd,hwd⟩:∃ v,w1.drew=v:=⟨_,rfl⟩;rw [hwd] at hdr;have HXd:=Hi (HX1'.out.below hdr HX1'.out.lt);have HBd:=Hi (HB1.out.trans (hdr.mono HB1.out.size));have HB0d:=Hi (HB0.out.trans (hdr.mono HB0.out.size));have HMd:=Hi (hI.mono HM1.out hdr);clear hdr e0 e1 e2 e3 e4 e5 z0 z1 z2 z3 z4 z5 hgl;have hZ0:Below wd.heap.size wd wd:=Below.refl _ _;refine HT.wp_region (Z:=fun w'=>Below wd.heap.size wd w') (S:=fun _=>True) (st:=[]) V1 ?_;rw [hwd];clear hwd;refine HT.k 0 rfl V7 hZ0 ?_;refine HT.k 1 rfl V7 hZ0 ?_;refine HT.k 2 rfl V7 hZ0 ?_;refine HT.k 3 rfl V7 hZ0 ?_;refine HT.m 4 hZ0 ?_;refine HT.k 5 rfl V1t hZ0 ?_;refine HT.m 6 hZ0 ?_;refine HT.k 8 rfl V7 hZ0 ?_;refine HT.k 9 rfl V7 hZ0 ?_;refine HT.m 10 hZ0 ?_;refine HT.k 11 rfl V35 hZ0 ?_;refine HT.m 12 hZ0 ?_;refine HT.one (i:=7) V1 rfl (fun K hK=>?_);go_simp;refine (show Calls Tryz.prog 73 #[nzA k' a' s' n' A' la' cA' B' lb' cB',nvQ q] wd _ from HCX.out wd HB0d.out HMd.out).mono ?_;rintro e w5 ⟨rfl,hb5⟩;(try dsimp only);refine hK.out _ _ hb5 trivial ?_;clear hK K;(try simp only [HT.pS]);refine HT.one (i:=13) V1 rfl (fun K hK=>?_);go_simp;refine (show Calls Tryz.prog 73 #[nzA k2 a2 s2 n2 A2 la2 cA2 B2 lb2 cB2,nvQ q] w5 _ from HCY.out w5 (HB0d.out.trans (hb5.mono HB0d.out.size)) (hI.mono HMd.out hb5)).mono ?_;rintro e w6 ⟨rfl,hb6⟩;have hz6:=hb5.trans (hb6.mono hb5.size);(try dsimp only);refine hK.out _ _ hz6 trivial ?_;clear hK K;(try simp only [HT.pS]);refine HT.one (i:=14) V1 rfl (fun K hK=>?_);go_simp;refine (shifted w6 s x2 y2).mono ?_;exact V2G
theorem worth{w0:World}{b q:Nat}{kn:Kw}(m:Nat)(z:Tz)(h:SizeOf.sizeOf z < m)(w:World)(k a:Int)(s:Bs)(n:Nat)(A:Option Addr)(la cA:Nat)(B:Option Addr)(lb cB:Nat)(hb:Below w0.heap.size w0 w)(hM:MpW w b q kn)(hT:TrV w0 z k a s n A la cA B lb cB)(hst:strB (looB kn) z=none) :
  Calls Tryz.prog 73 #[nzA k a s n A la cA B lb cB,nuV b] w (WoP w (worB (looB kn) z)):=worthQ (mpI b q kn) m z h w k a s n A la cA B lb cB hb hM hT hst
end Fl
namespace Pa
open Lx
mutual
def gE(Q:Bs->Prop):Tr->Prop
 | .mk k _ s n ps l=>ps=[]/\gEs Q l/\n < 4294967296/\((k = 0/\s=[]/\l=[])\/(n = 0/\((k = 1/\Q s/\l=[])\/(k = 2/\(s=[126]\/s=[45])/\l.length = 1) \/
   (k = 3/\(s=[124]\/s=[94]\/s=[38]\/s=[43]\/s=[45])/\l.length = 2)\/(k = 4/\(s=[60,60]\/s=[62,62]\/s=[60,60,60])/\l.length = 2)\/(k = 5/\Q s/\l≠[]))))
def gEs(Q:Bs->Prop):List Tr->Prop
 | []=>True
 | x :: l=>gE Q x/\gEs Q l
end
mutual
def gS(Q:Bs->Prop):Tr->Prop
 | .mk k _ s n ps l=>n = 0/\ps=[]/\Q s/\((k = 10/\l.length = 1/\gA Q 1 l)\/(k = 11/\2<=l.length/\gA Q 2 l))
def gA(Q:Bs->Prop):Nat->List Tr->Prop
 | _,[]=>True
 | 0,x :: l=>gS Q x/\gA Q 0 l
 | i+1,x :: l=>gE Q x/\gA Q i l
end
def gT(Q:Bs->Prop):Tr->Prop
 | .mk k a s n ps l=>gS Q (.mk k a s n ps l)\/(n = 0/\(((k = 6\/k = 7)/\s=[]/\l=[]/\ps≠[]/\(∀ p∈ps,Q p))\/((k = 8\/k = 9)/\ps=[]/\Q s/\∃ x,l=[x]/\gE Q x) \/
   (k = 12/\ps≠[]/\(∀ p∈ps,Q p)/\Q s/\∃ x,l=[x]/\gE Q x)))
theorem gE_put{Q:Bs->Prop}{x:Tr}(h:gE Q x)(a:Nat):gE Q (x.put a):=by
 cases x;unfold Tr.put gE;unfold gE at h;exact h
def TQ(Q:Bs->Prop)(l:List Tk):Prop:=∀ t∈l,t.k = 1->Q t.s
theorem TQ.tail{Q:Bs->Prop}{t:Tk}{l:List Tk}(h:TQ Q (t :: l)):TQ Q l:=fun u hu=>h u (List.mem_cons_of_mem _ hu)
theorem TQ.hd{Q:Bs->Prop}{t:Tk}{l:List Tk}(h:TQ Q (t :: l))(hk:t.k = 1):Q t.s:=h t (List.mem_cons_self ..) hk
def Gr(Q:Bs->Prop)(P:List Tr->Prop):OO->Prop
 | some (.ok xs r)=>P xs/\TQ Q r
 | _=>True
section
variable {Q : Bs -> Prop} {P P' : List Tr -> Prop}
theorem q1i(l:List Tk)(e:Nat):Gr Q P (wrong l e):=trivial
theorem q0Q{c:Prop}[Decidable c]{o p:OO}(h1:c->Gr Q P o)(h2:¬ c->Gr Q P p):Gr Q P (if c then o else p):=by
 by_cases h:c
 ·rw [if_pos h];exact h1 h
 ·rw [if_neg h];exact h2 h
theorem q1c{o:OO}{f:List Tr->List Tk->OO}(h:Gr Q P o)(hf:∀ xs r,P xs->TQ Q r->Gr Q P' (f xs r)):Gr Q P' (bnd o f):=by
 rcases o with _ | ⟨xs,r⟩ | ⟨a,e⟩
 ·trivial
 ·exact hf xs r h.1 h.2
 ·trivial
theorem gr_ok{xs:List Tr}{r:List Tk}(h:P xs)(hr:TQ Q r):Gr Q P (some (.ok xs r)):=⟨h,hr⟩
theorem q2c{o:OO}(h:Gr Q P o)(hP:∀ xs,P xs->P' xs):Gr Q P' o:=by
 rcases o with _ | ⟨xs,r⟩ | ⟨a,e⟩
 ·trivial
 ·exact ⟨hP xs h.1,h.2⟩
 ·trivial
theorem q0y{b:Bs}{l:List Tk}{f:List Tk->OO}(h:TQ Q l)(hf:∀ r,TQ Q r->Gr Q P (f r)):Gr Q P (must b l f):=by
 cases l with
 | nil=>trivial
 | cons t r=>exact q0Q (fun _=>hf r h.tail) fun _=>q1i _ _
theorem q2d{l:List Tk}{f:Bs->List Tk->OO}(h:TQ Q l)(hf:∀ s r,Q s->TQ Q r->Gr Q P (f s r)):Gr Q P (nameK l f):=by
 cases l with
 | nil=>trivial
 | cons t r=>exact q0Q (fun hk=>hf t.s r (h.hd hk) h.tail) fun _=>q1i _ _
theorem q2w{f:List Bs->List Tk->OO}(hf:∀ ps r,ps≠[]->(∀ p∈ps,Q p)->TQ Q r->Gr Q P (f ps r)):∀ (ps:List Bs) (l:List Tk),(∀ p∈ps,Q p)->TQ Q l->Gr Q P (namesK ps l f)
 | _,[],_,_=>trivial
 | ps,[t],hp,h=>by
  unfold namesK;exact q0Q (fun hk=>hf _ _ V3 (fun p hm=>by
   rcases List.mem_append.1 hm with hm | hm
   ·exact hp p hm
   ·rw [List.mem_singleton.1 hm];exact h.hd hk) h.tail) fun _=>q1i _ _
 | ps,t :: u :: r,hp,h=>by
  unfold namesK;refine q0Q (fun hk=>?_) fun _=>q1i _ _
  have hq:∀ p∈ps ++ [t.s],Q p:=fun p hm=>by
   rcases List.mem_append.1 hm with hm | hm
   ·exact hp p hm
   ·rw [List.mem_singleton.1 hm];exact h.hd hk
  exact q0Q (fun _=>q2w hf _ r hq h.tail.tail) fun _=>hf _ _ V3 hq h.tail
end
def preM(Q:Bs->Prop):NT->Prop
 | .more _ x=>gE Q x
 | _=>True
def gN(Q:Bs->Prop):NT->List Tr->Prop
 | .lev _,xs=>∃ x,xs=[x]/\gE Q x
 | .more _ _,xs=>∃ x,xs=[x]/\gE Q x
 | .args l,xs=>∃ ys,xs=l ++ ys/\gEs Q ys
 | .fin k a s ps,xs=>∃ x,xs=[.mk k a s 0 ps [x]]/\gE Q x
 | .inner,xs=>∃ x,xs=[x]/\gS Q x
 | .inners l,xs=>∃ ys,xs=l ++ ys/\gA Q 0 ys
 | .stmt,xs=>∃ x,xs=[x]/\gT Q x
 | .stmts l,xs=>∃ ys,xs=l ++ ys/\∀ y∈ys,gT Q y
theorem on_bin{Q:Bs->Prop}{n:Nat}{t:Tk}{x y:Tr}(h:onS n t=true)(hx:gE Q x)(hy:gE Q y)(a:Nat):gE Q (.mk (if n = 3 then 4 else 3) a t.s 0 [] [x,y]):=by
 unfold onS at h;simp only [Bool.and_eq_true,List.contains_iff_mem] at h;have hs:=h.2;unfold gE;refine ⟨rfl,⟨hx,hy,trivial⟩,V2,.inr ⟨rfl,?_⟩⟩;rcases n with _ | _ | _ | _ | n
 ·simp only [sOf,List.mem_singleton] at hs;exact .inr (.inr (.inl ⟨rfl,.inl hs,rfl⟩))
 ·simp only [sOf,List.mem_singleton] at hs;exact .inr (.inr (.inl ⟨rfl,.inr (.inl hs),rfl⟩))
 ·simp only [sOf,List.mem_singleton] at hs;exact .inr (.inr (.inl ⟨rfl,.inr (.inr (.inl hs)),rfl⟩))
 ·simp only [sOf,List.mem_cons,List.not_mem_nil,or_false] at hs;exact .inr (.inr (.inr (.inl ⟨rfl,hs,rfl⟩)))
 ·simp only [sOf,List.mem_cons,List.not_mem_nil,or_false] at hs;refine .inr (.inr (.inl ⟨if_neg V0,?_,rfl⟩));rcases hs with hs | hs
  ·exact .inr (.inr (.inr (.inl hs)))
  ·exact .inr (.inr (.inr (.inr hs)))
theorem q4H{num:Bs->Nat×Nat}{Q:Bs->Prop}(hn:∀ b,(num b).1 < 4294967296):∀ (f:Nat) (nt:NT) (d:Nat) (l:List Tk),preM Q nt->TQ Q l->Gr Q (gN Q nt) (pF num f nt d l):=by
 intro f
 induction f with
 | zero=>intros;trivial
 | succ f ih=>
  intro nt d l hp h;cases nt with
  | lev n=>
   unfold pF;refine q0Q (fun _=>q1c (ih (.lev (n+1)) _ _ trivial h) fun xs r hx hr=>?_) fun _=>?_
   ·obtain ⟨x,rfl,hx⟩:=hx;exact ih (.more n x) _ _ hx hr
   cases l with
   | nil=>trivial
   | cons t r=>
   refine q0Q (fun _=>q1i _ _) fun _=>q0Q (fun hs=>?_) fun _=>q0Q (fun hk=>?_) fun _=>q0Q (fun hs=>?_) fun _=>q2d h fun s r hs hr=>?_
   ·refine q1c (ih (.lev 5) _ _ trivial h.tail) fun xs r' hx hr=>⟨?_,hr⟩
    obtain ⟨x,rfl,hx⟩:=hx;refine ⟨_,rfl,?_⟩;unfold gE;refine ⟨rfl,⟨hx,trivial⟩,V2,.inr ⟨rfl,.inr (.inl ⟨rfl,?_,rfl⟩)⟩⟩;unfold isS at hs;simp only [Bool.or_eq_true,Bool.and_eq_true,beq_iff_eq] at hs;rcases hs with hs | hs
    ·exact .inl hs.2
    ·exact .inr hs.2
   ·refine q0Q (fun _=>⟨⟨_,rfl,?_⟩,h.tail⟩) fun _=>q1i _ _
    unfold gE;exact ⟨rfl,trivial,hn _,.inl ⟨rfl,rfl,rfl⟩⟩
   ·refine q1c (ih (.lev 0) _ _ trivial h.tail) fun xs r' hx hr=>q0y hr fun r2 hr2=>⟨?_,hr2⟩
    obtain ⟨x,rfl,hx⟩:=hx;exact ⟨_,rfl,gE_put hx _⟩
   ·have leaf:gE Q (.mk 1 t.at_ s 0 [] []):=by
     unfold gE;exact ⟨rfl,trivial,V2,.inr ⟨rfl,.inl ⟨rfl,hs,rfl⟩⟩⟩
    cases r with
    | nil=>exact ⟨⟨_,rfl,leaf⟩,hr⟩
    | cons u r'=>
     refine q0Q (fun hu=>?_) fun _=>⟨⟨_,rfl,leaf⟩,hr⟩
     refine q1c (ih (.lev 0) _ _ trivial hr.tail) fun xs r2 hx hr2=>q1c (ih (.args xs) _ _ trivial hr2) fun ys r3 hy hr3=>q0y hr3 fun r4 hr4=>⟨?_,hr4⟩
     obtain ⟨x,rfl,hx⟩:=hx;obtain ⟨zs,rfl,hz⟩:=hy;refine ⟨_,rfl,?_⟩;unfold gE;exact ⟨rfl,⟨hx,hz⟩,V2,.inr ⟨rfl,.inr (.inr (.inr (.inr ⟨rfl,hs,V3⟩)))⟩⟩
  | more n x=>
   unfold pF;cases l with
   | nil=>exact ⟨⟨_,rfl,hp⟩,h⟩
   | cons t r=>
    refine q0Q (fun hs=>q1c (ih (.lev (n+1)) _ _ trivial h.tail) fun ys r' hy hr'=>?_) fun _=>⟨⟨_,rfl,hp⟩,h⟩
    obtain ⟨y,rfl,hy⟩:=hy;exact ih (.more n (.mk (if n = 3 then 4 else 3) x.place t.s 0 [] [x,y])) d r' (on_bin hs hp hy x.place) hr'
  | args xs=>
   unfold pF;cases l with
   | nil=>exact ⟨⟨[],V3,trivial⟩,h⟩
   | cons t r=>
    refine q0Q (fun hs=>q1c (ih (.lev 0) _ _ trivial h.tail) fun ys r' hy hr'=>?_) fun _=>⟨⟨[],V3,trivial⟩,h⟩
    obtain ⟨y,rfl,hy⟩:=hy;refine q2c (ih (.args (xs ++ [y])) d r' trivial hr') fun zs hz=>?_
    obtain ⟨us,rfl,hu⟩:=hz;exact ⟨y :: us,V3,hy,hu⟩
  | fin k a s ps=>
   unfold pF;refine q1c (ih (.lev 0) _ _ trivial h) fun xs r hx hr=>q0y hr fun r' hr'=>⟨?_,hr'⟩
   obtain ⟨x,rfl,hx⟩:=hx;exact ⟨x,rfl,hx⟩
  | inner=>
   unfold pF;cases l with
   | nil=>trivial
   | cons t r=>
    refine q0Q (fun _=>q1i _ _) fun _=>q0Q (fun hs=>?_) fun _=>q2d h fun s r hs hr=>q0y hr fun r hr=>?_
    ·refine q2d h.tail fun s r hs hr=>q0y hr fun r hr=>q1c (ih (.lev 0) _ _ trivial hr) fun xs r hx hr=>q0y hr fun r hr=>q1c (ih (.lev 0) _ _ trivial hr) fun ys r hy hr=>q0y hr fun r hr=>q1c (ih (.inners (xs ++ ys)) _ _ trivial hr) fun zs r hz hr=>⟨?_,hr⟩
     obtain ⟨x,rfl,hx⟩:=hx;obtain ⟨y,rfl,hy⟩:=hy;obtain ⟨us,rfl,hu⟩:=hz;refine ⟨_,rfl,?_⟩;unfold gS;refine ⟨rfl,rfl,hs,.inr ⟨rfl,V3,?_⟩⟩;show gA Q 2 (x :: y :: us);unfold gA;refine ⟨hx,?_⟩;unfold gA;exact ⟨hy,hu⟩
    ·refine q2c (ih (.fin 10 t.at_ s []) d r trivial hr) fun zs hz=>?_
     obtain ⟨x,rfl,hx⟩:=hz;refine ⟨_,rfl,?_⟩;unfold gS;refine ⟨rfl,rfl,hs,.inl ⟨rfl,rfl,?_⟩⟩;unfold gA;exact ⟨hx,by unfold gA;trivial⟩
  | inners zs=>
   unfold pF;cases l with
   | nil=>trivial
   | cons t r=>
    refine q0Q (fun _=>⟨⟨[],V3,by unfold gA;trivial⟩,h.tail⟩) fun _=>q1c (ih .inner _ _ trivial h) fun xs r' hx hr'=>?_
    obtain ⟨x,rfl,hx⟩:=hx;refine q2c (ih (.inners (zs ++ [x])) d r' trivial hr') fun ys hz=>?_
    obtain ⟨us,rfl,hu⟩:=hz;exact ⟨x :: us,V3,by unfold gA;exact ⟨hx,hu⟩⟩
  | stmt=>
   unfold pF;cases l with
   | nil=>trivial
   | cons t r=>
    have fin:∀ (k:Nat) (s:Bs) (ps:List Bs) (r:List Tk),TQ Q r->(∀ x,gE Q x->gT Q (.mk k t.at_ s 0 ps [x]))->Gr Q (gN Q .stmt) (pF num f (.fin k t.at_ s ps) d r):=fun k s ps r hr hk=>by
     refine q2c (ih (.fin k t.at_ s ps) d r trivial hr) fun zs hz=>?_
     obtain ⟨x,rfl,hx⟩:=hz;exact ⟨_,rfl,hk x hx⟩
    refine q0Q (fun _=>?_) fun _=>q0Q (fun _=>?_) fun _=>q0Q (fun _=>?_) fun _=>q0Q (fun _=>?_) fun _=>q0Q (fun _=>?_) fun _=>?_
    ·exact q2w (fun ps r h0 hq hr=>q0y hr fun r hr=>gr_ok ⟨_,rfl,by unfold gT;exact .inr ⟨rfl,.inl ⟨.inl rfl,rfl,rfl,h0,hq⟩⟩⟩ hr) [] r V3 h.tail
    ·exact q2w (fun ps r h0 hq hr=>q0y hr fun r hr=>gr_ok ⟨_,rfl,by unfold gT;exact .inr ⟨rfl,.inl ⟨.inr rfl,rfl,rfl,h0,hq⟩⟩⟩ hr) [] r V3 h.tail
    ·exact q2d h.tail fun s r hs hr=>q0y hr fun r hr=>fin 8 s [] r hr fun x hx=>by unfold gT;exact .inr ⟨rfl,.inr (.inl ⟨.inl rfl,rfl,hs,x,rfl,hx⟩)⟩
    ·exact q2d h.tail fun s r hs hr=>q0y hr fun r hr=>fin 9 s [] r hr fun x hx=>by unfold gT;exact .inr ⟨rfl,.inr (.inl ⟨.inr rfl,rfl,hs,x,rfl,hx⟩)⟩
    ·exact q2d h.tail fun s r hs hr=>q0y hr fun r hr=>q2w (fun ps r h0 hq hr=>q0y hr fun r hr=>q0y hr fun r hr=>fin 12 s ps r hr fun x hx=>by unfold gT;exact .inr ⟨rfl,.inr (.inr ⟨rfl,h0,hq,hs,x,rfl,hx⟩)⟩) [] r V3 hr
    ·refine q2c (ih .inner 0 (t :: r) trivial h) fun zs hz=>?_
     obtain ⟨x,rfl,hx⟩:=hz;refine ⟨x,rfl,?_⟩;cases x;unfold gT;exact .inl hx
  | stmts xs=>
   unfold pF;cases l with
   | nil=>trivial
   | cons t r=>
    refine q0Q (fun _=>⟨⟨[],V3,V3⟩,h⟩) fun _=>q1c (ih .stmt _ _ trivial h) fun ys r' hy hr'=>?_
    obtain ⟨y,rfl,hy⟩:=hy;refine q2c (ih (.stmts (xs ++ [y])) d r' trivial hr') fun zs hz=>?_
    obtain ⟨us,rfl,hu⟩:=hz;refine ⟨y :: us,V3,fun z hz=>?_⟩;rcases List.mem_cons.1 hz with rfl | hz
    ·exact hy
    ·exact hu z hz
end Pa
namespace Ev
open Lx Pa Sh Go.Proofs.YtcgibpdjfgjldaaGreatDoor.Nm Fl
abbrev Kn:=Bs->Option (BitVec 32)
abbrev loN0:Lo:=fun _=>none
mutual
def mdE:Tz->Prop
 | .mk k _ s n _ l=>n < 4294967296/\mdEs l/\((k = 0/\l=[])\/(k = 1/\l=[])\/(k = 2/\(s=[126]\/s=[45])/\l.length = 1) \/
   (k = 3/\(s=[124]\/s=[94]\/s=[38]\/s=[43]\/s=[45])/\l.length = 2)\/(k = 4/\(s=[60,60]\/s=[62,62]\/s=[60,60,60])/\l.length = 2)\/(k = 5/\l≠[]))
def mdEs:List Tz->Prop
 | []=>True
 | x :: l=>mdE x/\mdEs l
end
mutual
theorem q6d{Q:Bs->Prop}:∀ {x:Tr},gE Q x->mdE (embz x)
 | .mk k a s n ps l,h=>by
  unfold gE at h;obtain ⟨_,h1,h2,h3⟩:=h;unfold embz mdE;refine ⟨h2,q6e h1,?_⟩;have hl:(embs l).length=l.length:=q2s l;rcases h3 with ⟨rfl,_,rfl⟩ | ⟨_,⟨rfl,_,rfl⟩ | ⟨rfl,h,h'⟩ | ⟨rfl,h,h'⟩ | ⟨rfl,h,h'⟩ | ⟨rfl,_,h'⟩⟩
  ·exact .inl ⟨rfl,by unfold embs;rfl⟩
  ·exact .inr (.inl ⟨rfl,by unfold embs;rfl⟩)
  ·exact .inr (.inr (.inl ⟨rfl,h,hl.trans h'⟩))
  ·exact .inr (.inr (.inr (.inl ⟨rfl,h,hl.trans h'⟩)))
  ·exact .inr (.inr (.inr (.inr (.inl ⟨rfl,h,hl.trans h'⟩))))
  ·refine .inr (.inr (.inr (.inr (.inr ⟨rfl,fun e=>h' ?_⟩))));rw [e] at hl;exact List.length_eq_zero_iff.1 hl.symm
theorem q6e{Q:Bs->Prop}:∀ {l:List Tr},gEs Q l->mdEs (embs l)
 | [],_=>by unfold embs mdEs;trivial
 | x :: l,h=>by
  unfold gEs at h;unfold embs mdEs;exact ⟨q6d h.1,q6e h.2⟩
end
def conB(z:Tz):Option (BitVec 32):=if (strB loN0 z).isNone=true then some (worB loN0 z) else none
def conL:Nat->List Tz->Option (BitVec 32)
 | _,[]=>some 0
 | 0,x :: _=>conB x
 | i+1,_ :: l=>conL i l
mutual
def canB(kn:Kn):Tz->Bool
 | .mk k _ s _ _ l=>(if k = 1 then (kn s).isSome else if k = 4 then (conL 1 l).isSome else if k = 5 then decide (s=sel) && decide (l.length = 3) else true) && canBs kn l
def canBs(kn:Kn):List Tz->Bool
 | []=>true
 | x :: l=>canB kn x && canBs kn l
end
def selB(m a b:BitVec 32):BitVec 32:=(a &&& m) ||| (b &&& ~~~m)
mutual
def wdB(kn:Kn):Tz->BitVec 32
 | .mk k _ s n _ l=>if k = 0 then BitVec.ofNat 32 n else if k = 1 then (kn s).getD 0 else if k = 2 then unB s (wdL kn 0 l) else if k = 3 then boB s (wdL kn 0 l) (wdL kn 1 l)
   else if k = 4 then shB s (wdL kn 0 l) ((conL 1 l).getD 0) else selB (wdL kn 0 l) (wdL kn 1 l) (wdL kn 2 l)
def wdL(kn:Kn):Nat->List Tz->BitVec 32
 | _,[]=>0
 | 0,x :: _=>wdB kn x
 | i+1,_ :: l=>wdL kn i l
end
mutual
def rdB(kn:Kn):Tz->BitVec 32
 | .mk k _ s n _ l=>if k = 0 then BitVec.ofNat 32 n else if k = 1 then (kn s).getD 0 else if k = 2 then unB s (rdL kn 0 l) else if k = 3 then boB s (rdL kn 0 l) (rdL kn 1 l)
   else if k = 4 then shB s (rdL kn 0 l) (rdL kn 1 l) else selB (rdL kn 0 l) (rdL kn 1 l) (rdL kn 2 l)
def rdL(kn:Kn):Nat->List Tz->BitVec 32
 | _,[]=>0
 | 0,x :: _=>rdB kn x
 | i+1,_ :: l=>rdL kn i l
end
theorem q2e(kn:Kn)(k a:Int)(s:Bs)(n:Nat)(ps:List Bs)(l:List Tz):canB kn (.mk k a s n ps l)=((if k = 1 then (kn s).isSome else if k = 4 then (conL 1 l).isSome else if k = 5 then decide (s=sel) && decide (l.length = 3) else true) && canBs kn l):=by conv=>lhs;unfold canB
theorem q8E(kn:Kn)(k a:Int)(s:Bs)(n:Nat)(ps:List Bs)(l:List Tz):wdB kn (.mk k a s n ps l)=if k = 0 then BitVec.ofNat 32 n else if k = 1 then (kn s).getD 0 else if k = 2 then unB s (wdL kn 0 l) else if k = 3 then boB s (wdL kn 0 l) (wdL kn 1 l)
   else if k = 4 then shB s (wdL kn 0 l) ((conL 1 l).getD 0) else selB (wdL kn 0 l) (wdL kn 1 l) (wdL kn 2 l):=by conv=>lhs;unfold wdB
theorem q6f(kn:Kn)(k a:Int)(s:Bs)(n:Nat)(ps:List Bs)(l:List Tz):rdB kn (.mk k a s n ps l)=if k = 0 then BitVec.ofNat 32 n else if k = 1 then (kn s).getD 0 else if k = 2 then unB s (rdL kn 0 l) else if k = 3 then boB s (rdL kn 0 l) (rdL kn 1 l)
   else if k = 4 then shB s (rdL kn 0 l) (rdL kn 1 l) else selB (rdL kn 0 l) (rdL kn 1 l) (rdL kn 2 l):=by conv=>lhs;unfold rdB
theorem q1Z(kn:Kn)(x:Tz)(l:List Tz):wdL kn 0 (x :: l)=wdB kn x:=by conv=>lhs;unfold wdL
theorem q42(kn:Kn)(i:Nat)(x:Tz)(l:List Tz):wdL kn (i+1) (x :: l)=wdL kn i l:=by conv=>lhs;unfold wdL
theorem q14(kn:Kn)(x:Tz)(l:List Tz):rdL kn 0 (x :: l)=rdB kn x:=by conv=>lhs;unfold rdL
theorem q2p(kn:Kn)(i:Nat)(x:Tz)(l:List Tz):rdL kn (i+1) (x :: l)=rdL kn i l:=by conv=>lhs;unfold rdL
theorem q0b(kn:Kn)(x:Tz)(l:List Tz):canBs kn (x :: l)=(canB kn x && canBs kn l):=by conv=>lhs;unfold canBs
theorem q6g{z:Tz}(h:strB loN0 z=none):conB z=some (worB loN0 z):=by unfold conB;rw [h];rfl
theorem q6h{z:Tz}{e:Int×Int×Bs}(h:strB loN0 z=some e):conB z=none:=by unfold conB;rw [h];rfl
theorem q1u{l:List Tz}(h:l.length = 2):∃ x y,l=[x,y]:=by
 match l,h with
 | [x,y],_=>exact ⟨x,y,rfl⟩
theorem q43{l:List Tz}(h:l.length = 1):∃ x,l=[x]:=by
 match l,h with
 | [x],_=>exact ⟨x,rfl⟩
theorem q3v{l:List Tz}(h:l.length = 3):∃ x y z,l=[x,y,z]:=by
 match l,h with
 | [x,y,z],_=>exact ⟨x,y,z,rfl⟩
theorem q0a:∀ {l:List Tz},mdEs l->∀ {i:Nat} {x:Tz},l[i]?=some x->mdE x
 | [],_,i,x,h=>Vc
 | y :: l,h,0,x,hx=>by
  obtain rfl:y=x:=Vf;unfold mdEs at h;exact h.1
 | y :: l,h,i+1,x,hx=>by
  unfold mdEs at h;exact q0a h.2 Vf
theorem q1F(kn:Kn):∀ (m:Nat) (z:Tz),SizeOf.sizeOf z < m->mdE z->strB loN0 z=none->worB loN0 z=rdB kn z
 | 0,z,h=>absurd h (Nat.not_lt_zero _)
 | m+1,.mk k a s n ps l,hm=>fun hd hs=>by
  obtain ⟨hf,hss⟩:=q5h hs;unfold mdE at hd;obtain ⟨_,hds,hc⟩:=hd;rw [q2J,q6f];have hsz:∀ x∈l,SizeOf.sizeOf x < m:=fun x hx=>by
   exact V3D
  rcases hc with ⟨rfl,rfl⟩ | ⟨rfl,rfl⟩ | ⟨rfl,_,hl⟩ | ⟨rfl,_,hl⟩ | ⟨rfl,_,hl⟩ | ⟨rfl,hl⟩
  ·rfl
  ·cases hf
  ·obtain ⟨x,rfl⟩:=q43 hl;rw [if_neg V2,if_neg V2,if_pos rfl,if_neg V2,if_neg V2,if_pos rfl,q1K,q14,q1F kn m x (hsz x V3) (q0a hds (i:=0) rfl) (q0s hss).1]
  ·obtain ⟨x,y,rfl⟩:=q1u hl;rw [if_neg V2,if_neg V2,if_neg V2,if_pos rfl,if_neg V2,if_neg V2,if_neg V2,if_pos rfl,q1K,q34,q14,q2p,q14,
    q1F kn m x (hsz x V3) (q0a hds (i:=0) rfl) (q0s hss).1,q1F kn m y (hsz y V3) (q0a hds (i:=1) rfl) (q0s (q0s hss).2).1]
  ·obtain ⟨x,y,rfl⟩:=q1u hl;rw [if_neg V2,if_neg V2,if_neg V2,if_neg V2,if_neg V2,if_neg V2,if_neg V2,if_neg V2,if_pos rfl,q1K,q34,q14,q2p,q14,
    q1F kn m x (hsz x V3) (q0a hds (i:=0) rfl) (q0s hss).1,q1F kn m y (hsz y V3) (q0a hds (i:=1) rfl) (q0s (q0s hss).2).1]
  ·cases hf
theorem q0Z(kn:Kn):∀ (m:Nat) (z:Tz),SizeOf.sizeOf z < m->mdE z->canB kn z=true->wdB kn z=rdB kn z
 | 0,z,h=>absurd h (Nat.not_lt_zero _)
 | m+1,.mk k a s n ps l,hm=>fun hd hs=>by
  rw [q2e,Bool.and_eq_true] at hs;obtain ⟨hk,hss⟩:=hs;unfold mdE at hd;obtain ⟨_,hds,hc⟩:=hd;rw [q8E,q6f];have hsz:∀ x∈l,SizeOf.sizeOf x < m:=fun x hx=>by
   exact V3D
  rcases hc with ⟨rfl,rfl⟩ | ⟨rfl,rfl⟩ | ⟨rfl,_,hl⟩ | ⟨rfl,_,hl⟩ | ⟨rfl,_,hl⟩ | ⟨rfl,hl⟩
  ·rfl
  ·rfl
  ·obtain ⟨x,rfl⟩:=q43 hl;rw [q0b,Bool.and_eq_true] at hss;rw [if_neg V2,if_neg V2,if_pos rfl,if_neg V2,if_neg V2,if_pos rfl,q1Z,q14,q0Z kn m x (hsz x V3) (q0a hds (i:=0) rfl) hss.1]
  ·obtain ⟨x,y,rfl⟩:=q1u hl;rw [q0b,q0b,Bool.and_eq_true,Bool.and_eq_true] at hss;rw [if_neg V2,if_neg V2,if_neg V2,if_pos rfl,if_neg V2,if_neg V2,if_neg V2,if_pos rfl,q1Z,q42,q1Z,q14,q2p,q14,
    q0Z kn m x (hsz x V3) (q0a hds (i:=0) rfl) hss.1,q0Z kn m y (hsz y V3) (q0a hds (i:=1) rfl) hss.2.1]
  ·obtain ⟨x,y,rfl⟩:=q1u hl;rw [q0b,q0b,Bool.and_eq_true,Bool.and_eq_true] at hss;rw [if_neg V2,if_pos rfl] at hk;have hy:strB loN0 y=none:=by
    have hk':(conB y).isSome=true:=by unfold conL conL at hk;exact hk
    cases h:strB loN0 y with
    | none=>rfl
    | some e=>rw [q6h h] at hk';cases hk'
   have hcy:conL 1 [x,y]=some (rdB kn y):=by
    unfold conL conL;rw [q6g hy,q1F kn m y (hsz y V3) (q0a hds (i:=1) rfl) hy]
   rw [if_neg V2,if_neg V2,if_neg V2,if_neg V2,if_pos rfl,if_neg V2,if_neg V2,if_neg V2,if_neg V2,if_pos rfl,hcy,q1Z,q14,q2p,q14,
    q0Z kn m x (hsz x V3) (q0a hds (i:=0) rfl) hss.1]
   rfl
  ·rw [if_neg V2,if_neg V2,if_pos rfl,Bool.and_eq_true] at hk;obtain ⟨x,y,z,rfl⟩:=q3v (of_decide_eq_true hk.2);rw [q0b,q0b,q0b,Bool.and_eq_true,Bool.and_eq_true,Bool.and_eq_true] at hss;rw [if_neg V2,if_neg V2,if_neg V2,if_neg V2,if_neg V2,if_neg V2,if_neg V2,if_neg V2,if_neg V2,if_neg V2,
    q1Z,q42,q1Z,q42,q42,q1Z,q14,q2p,q14,q2p,q2p,q14,
    q0Z kn m x (hsz x V3) (q0a hds (i:=0) rfl) hss.1,q0Z kn m y (hsz y V3) (q0a hds (i:=1) rfl) hss.2.1,q0Z kn m z (hsz z V3) (q0a hds (i:=2) rfl) hss.2.2.1]
end Ev
namespace Ev
open Go Go.ChangeShapes Go.WideShapes Go.ChangeAt Go.RowKit Lx Args Pa Sh Go.Proofs.YtcgibpdjfgjldaaGreatDoor.Nm WMath Fl
theorem atU(w:World)(A:Option Addr)(c:Nat)(ws:List (BitVec 32))(hL:Lies w A (ws.map uV))(k:Nat)(hl:ws.length<=9223372036854775807) :
  Calls Tryz.prog 75 #[.slice A ws.length c,.int .i64 (k:Int)] w fun e w'=>e = .returned (uV (ws.getD k 0))/\w'=w:=by
 by_cases hlt:k < ws.length
 ·obtain ⟨x,hx⟩:∃ x,ws[k]?=some x:=⟨_,List.getElem?_eq_getElem hlt⟩;have f1:(ws.map uV)[k]?=some (uV x):=by rw [List.getElem?_map,hx];rfl
  obtain ⟨b,o,rfl,_,hc1⟩:=hL.at_ f1;have e1:=hc1 _ _ f1;have hr:ws.getD k 0=x:=by rw [List.getD_eq_getElem?_getD,hx];rfl
  rw [hr];clear hL hc1 f1 hx hr;go_enter Tryz.func75,Tryz.ntmps75;exact V1k
 ·have hr:ws.getD k 0 = 0:=by rw [List.getD_eq_getElem?_getD,List.getElem?_eq_none V0];rfl
  rw [hr];clear hL hr;go_enter Tryz.func75,Tryz.ntmps75;exact V1k
theorem res_c{fn:Func}{p:Tmp}(h:fn.results = #[.cell p 26])(tmps:Array Value)(W:World){g:Nat}{cs:Array Value}(hp:tmps.getD p undef = .pointer (some ⟨g,0,none⟩))(hg:Blk W g 26 cs)(hs:some 6=some cs.size) :
  (results fn tmps).run Tryz.prog W = .ok (.agg cs) W:=by
 have hp':tmps[p]?.getD undef = .pointer (some ⟨g,0,none⟩):=VF;have hq:=run_loadVar_row W g 26 26 cs (0,0) _ hg Tryz.underlying26 rfl (Fl.szNd.trans hs);simp [results,h,hp',asAddr,hq]
theorem atN{w0:World}(w:World)(hb:Below w0.heap.size w0 w){b o i L c:Nat}(hL:L<=9223372036854775807)(hi:i < L){k a:Int}{s:Bs}{n:Nat}{A:Option Addr}{la cA:Nat}{B:Option Addr}{lb cB:Nat}(hbl:b < w0.heap.size)
  (hcel:∀ v,Below w0.heap.size w0 v->v.cell? ⟨b,o+i * 6,none⟩=some (.int .i64 k)/\v.cell? ⟨b,o+i * 6+1,none⟩=some (.string ⟨s.toArray⟩) /\
   v.cell? ⟨b,o+i * 6+2,none⟩=some (.int .u32 (n:Int))/\v.cell? ⟨b,o+i * 6+3,none⟩=some (.int .i64 a)/\v.cell? ⟨b,o+i * 6+4,none⟩=some (.slice A la cA)/\v.cell? ⟨b,o+i * 6+5,none⟩=some (.slice B lb cB)) :
  Calls Tryz.prog 76 #[.slice (some ⟨b,o,none⟩) L c,.int .i64 (i:Int)] w fun e w'=>e = .returned (nzA k a s n A la cA B lb cB)/\Below w.heap.size w w':=by
 obtain ⟨w1,hw1,hb1,hX1,hs1⟩:=q05 w #[.int .i64 0,.string ⟨#[]⟩,.int .u32 0,.int .i64 0,.slice none 0 0,.slice none 0 0];have hb2:=hb.trans (hb1.mono hb.size);obtain ⟨g0,g1,g2,g3,g4,g5⟩:=hcel w1 hb2;have hgb:=Nat.lt_of_lt_of_le hbl hb2.size;obtain ⟨⟨y0,y1,y2,y3,y4,y5⟩,x0,x1,x2,x3,x4,x5⟩:=Blk.c6 hX1;have HQ:=Hi (q2v hX1 (.int .i64 k) (.string ⟨s.toArray⟩) (.int .u32 (n:Int)) (.int .i64 a) (.slice A la cA) (.slice B lb cB));have HB:=Hi (q1E (Nat.le_refl w.heap.size) hb1 (.int .i64 k) (.string ⟨s.toArray⟩) (.int .u32 (n:Int)) (.int .i64 a) (.slice A la cA) (.slice B lb cB));have hgl:=hX1.lt;have HW:=Hi hw1;clear hb hb1 hb2 hcel hX1 hs1 hw1;go_enter Tryz.func76,Tryz.ntmps76;go_upto_region 1 with fail
 rw [HW.out];go_wp2_with fail
 exact bodyPost_ret (v:=nzA k a s n A la cA B lb cB) (res_c rfl _ _ rfl HQ.out rfl) rfl ⟨rfl,HB.out⟩
end Ev
end Go.Proofs.YtcgibpdjfgjldaaGreatDoor
