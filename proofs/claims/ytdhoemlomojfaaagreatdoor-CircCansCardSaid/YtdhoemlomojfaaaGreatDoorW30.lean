/- DERIVED. PaNd, PaAr. By an AI agent. -/
import Derived.Test.YtdhoemlomojfaaaGreatDoorW01
import Derived.Test.YtdhoemlomojfaaaGreatDoorW28
import Derived.Test.YtdhoemlomojfaaaGreatDoorW29
set_option maxRecDepth 100000
set_option maxHeartbeats 4000000
set_option linter.unusedVariables false
set_option linter.unusedSimpArgs false
namespace Go.Proofs.YtdhoemlomojfaaaGreatDoor.Pa
open Go Go.ChangeShapes Go.WideShapes Go.ChangeAt Go.RowKit Lx Args
section
attribute [local go_sem] fTk0 fTk1 fTk2
def OutP(w:World)(bp d:Nat)(l:List Tk)(R:Out→Prop)(e:Ending)(w':World):Prop:=
 (∃ k a s n A la cA B lb cB x r,e = .returned (.agg #[.int .i64 (k:Nat),.string ⟨(s:Bs).toArray⟩,.int .u32 (n:Nat),.int .i64 (a:Nat),.slice A la cA,.slice B lb cB])∧TIn (fun b=>w.heap.size≤b) w' x (ndC k a s n A la cA B lb cB)∧R (.ok [x] r) ∧
  PS w' bp r d∧Gt r∧r.length < l.length∧UB bp w w') ∨
 (∃ a er,e=panV a er∧R (.bad a er)∧UB bp w w')
theorem OutP.imp{w:World}{bp d:Nat}{l:List Tk}{R R':Out→Prop}{e:Ending}{w':World}(h:OutP w bp d l R e w')(hR:∀ o,R o→R' o):OutP w bp d l R' e w':=by
 rcases h with ⟨k,a,s,n,A,la,cA,B,lb,cB,x,r,h1,h2,h3,h4⟩ | ⟨a,er,h1,h2,h3⟩
 ·exact .inl ⟨k,a,s,n,A,la,cA,B,lb,cB,x,r,h1,h2,hR _ h3,h4⟩
 ·exact .inr ⟨a,er,h1,hR _ h2,h3⟩
theorem TIn.up{lo lo':Nat}{w:World}{x:Tr}{c:List Value}(h:TIn (fun b=>lo≤b) w x c)(hl:lo'≤lo):TIn (fun b=>lo'≤b) w x c:=h.mono fun b hb _=>Nat.le_trans hl hb
theorem TIn.far{X:Nat→Prop}{lo:Nat}{w w':World}{x:Tr}{c:List Value}(h:TIn (fun b=>lo≤b) w x c)(hu:Upd X w w')(hX:∀ b,X b→b < lo):TIn (fun b=>lo≤b) w' x c:=h.upd hu fun b hb hx=>by have:=hX b hx;omega
theorem out_ok{w w1:World}{bp d lo:Nat}{l r:List Tk}{R:Out→Prop}{k a n la cA lb cB:Nat}{s:Bs}{A B:Option Addr}{x:Tr}(hlt:bp < w.heap.size)(hg:w.heap.size < lo)(hT:TIn (fun b=>lo≤b) w1 x (ndC k a s n A la cA B lb cB))(hR:R (.ok [x] r))(hP:PS w1 bp r d)(hG:Gt r)(hr:r.length < l.length)(hU:UB bp w w1) :
  OutP w bp d l R (.returned (.agg #[.int .i64 (k:Int),.string ⟨s.toArray⟩,.int .u32 (n:Int),.int .i64 (a:Int),.slice A la cA,.slice B lb cB])) (put6 w1 w.heap.size (.int .i64 (k:Int)) (.string ⟨s.toArray⟩) (.int .u32 (n:Int)) (.int .i64 (a:Int)) (.slice A la cA) (.slice B lb cB)):=by
 have hu:Upd (fun b=>b=w.heap.size) w1 (put6 w1 w.heap.size (.int .i64 (k:Int)) (.string ⟨s.toArray⟩) (.int .u32 (n:Int)) (.int .i64 (a:Int)) (.slice A la cA) (.slice B lb cB)):=put6_upd (X:=fun b=>b=w.heap.size) (Upd.refl _ _) (fun _=>rfl) _ _ _ _ _ _;refine .inl ⟨k,a,s,n,A,la,cA,B,lb,cB,x,r,rfl,?_,hR,hP.far hu fun b hb=>by omega,hG,hr,?_⟩
 ·exact (TIn.far hT hu fun b hb=>by omega).up (Nat.le_of_lt hg)
 ·exact put6_upd hU (fun h=>absurd h (Nat.lt_irrefl _)) _ _ _ _ _ _
theorem expr(w:World)(bp d:Nat)(l:List Tk)(hp:PS w bp l d)
  (hS:∀ w0,PS w0 bp l d→Calls Tryz.prog 135 #[.pointer (some ⟨bp,0,none⟩),.int .i64 1] w0 (OutP w0 bp d l (Rd numV (.lev 0) d l))) :
  Calls Tryz.prog 109 #[.pointer (some ⟨bp,0,none⟩)] w (OutP w bp d l (Rd numV (.lev 0) d l)):=by
 obtain ⟨w0,hw0⟩:∃ w0,w.alloc (.cells #[.int .i64 0,.string ⟨#[]⟩,.int .u32 0,.int .i64 0,.slice none 0 0,.slice none 0 0] 62)=w0:=⟨_,rfl⟩;have hb0:Below w.heap.size w w0:=by rw [←hw0];exact (Below.refl _ _).alloc (Nat.le_refl _) _
 have hB:Blk w0 w.heap.size 62 #[.int .i64 0,.string ⟨#[]⟩,.int .u32 0,.int .i64 0,.slice none 0 0,.slice none 0 0]:=by rw [←hw0];exact Blk.new _ _ _
 have hlt:=hp.lt;have HS:=Hi (hS w0 (hp.below hb0));have HB0:=Hi hb0;have HB:=Hi hB;have HW:=Hi hw0;clear hb0 hp hw0 hB hS;go_enter Tryz.func109,Tryz.ntmps109;go_wp2_with fail
 rw [HW.out];refine HS.out.mono ?_;rintro e w1 (⟨k,a,s,n,A,la,cA,B,lb,cB,x,r,rfl,hT,hR,hP,hG,hr,hU⟩ | ⟨a,er,rfl,hR,hU⟩)
 ·have h1:Blk w1 w.heap.size 62 #[.int .i64 0,.string ⟨#[]⟩,.int .u32 0,.int .i64 0,.slice none 0 0,.slice none 0 0]:=HB.out.upd hU (by omega);obtain ⟨⟨e0,e1,e2,e3,e4,e5⟩,z0,z1,z2,z3,z4,z5⟩:=Blk.c6 h1;have H1:=Hi h1;have HT:=Hi hT;have HR:=Hi hR;have HP:=Hi hP;have HG:=Hi hG;have HU:=Hi hU;clear h1 hT hR hP hG hU;go_wp2_with fail
  exact bodyPost_ret (resNd rfl rfl (Blk.put6 H1.out _ _ _ _ _ _) rfl) rfl (out_ok hlt HB.out.lt HT.out HR.out HP.out HG.out hr ((below_UB HB0.out).trans HU.out))
 ·have HR:=Hi hR;have HU:=Hi hU;clear hR hU;go_wp2_with fail
  exact ⟨rfl,.inr ⟨a,er,rfl,HR.out,(below_UB HB0.out).trans HU.out⟩⟩
theorem OutP.below{w:World}{bp d:Nat}{l:List Tk}{R:Out→Prop}{e:Ending}{w1 w2:World}(h:OutP w bp d l R e w1)(hb:Below w1.heap.size w1 w2):OutP w bp d l R e w2:=by
 rcases h with ⟨k,a,s,n,A,la,cA,B,lb,cB,x,r,h1,h2,h3,h4,h5,h6,h7⟩ | ⟨a,er,h1,h2,h3⟩
 ·exact .inl ⟨k,a,s,n,A,la,cA,B,lb,cB,x,r,h1,h2.upd (Upd.of_below hb fun _=>False) (fun _ _ h=>h),h3,h4.below hb,h5,h6,h7.trans (below_UB hb)⟩
 ·exact .inr ⟨a,er,h1,h2,h3.trans (below_UB hb)⟩
theorem PS.dc{w:World}{bp d:Nat}{l:List Tk}(h:PS w bp l d):w.cell? ⟨bp,1,none⟩=some (.int .i64 (d:Int))∧w.frozen? ⟨bp,1,none⟩=false:=by
 obtain ⟨b,o,c,_,h1,_⟩:=h;exact ⟨h1.cell 1,h1.frozen 1⟩
theorem within_deep(F:Nat)(w:World)(bp:Nat)(t:Tk)(r:List Tk)(hp:PS w bp (t :: r) 60) :
  Calls Tryz.prog 136 #[.pointer (some ⟨bp,0,none⟩),.func (.func F) #[.pointer (some ⟨bp,0,none⟩)] #[]] w fun e w'=>e=panV t.at_ 150∧UB bp w w':=by
 obtain ⟨w0,hw0⟩:∃ w0,w.alloc (.cells #[.int .i64 0,.string ⟨#[]⟩,.int .u32 0,.int .i64 0,.slice none 0 0,.slice none 0 0] 62)=w0:=⟨_,rfl⟩;have hb0:Below w.heap.size w w0:=by rw [←hw0];exact (Below.refl _ _).alloc (Nat.le_refl _) _
 have HH:=Hi (here w0 bp 60 t r 150 (hp.below hb0));obtain ⟨f1,f3⟩:=hp.dc;have hlt:=hp.lt;have HB0:=Hi hb0;have HW:=Hi hw0;clear hb0 hp hw0;go_enter Tryz.func136,Tryz.ntmps136;go_wp2_with fail
 rw [HW.out];refine HH.out.mono ?_;rintro e w1 ⟨rfl,hb1⟩;have HB1:=Hi (HB0.out.trans (hb1.mono HB0.out.size));clear hb1;go_wp2_with fail
 exact ⟨rfl,rfl,below_UB HB1.out⟩
theorem within_expr(R:Out→Prop)(w:World)(bp d:Nat)(l:List Tk)(hd:d < 60)(hp:PS w bp l d)
  (hS:∀ w0,PS w0 bp l (d+1)→Calls Tryz.prog 109 #[.pointer (some ⟨bp,0,none⟩)] w0 (OutP w0 bp (d+1) l R)) :
  Calls Tryz.prog 136 #[.pointer (some ⟨bp,0,none⟩),.func (.func 109) #[.pointer (some ⟨bp,0,none⟩)] #[]] w (OutP w bp d l R):=by
 obtain ⟨f1,f3⟩:=hp.dc;have hlt:=hp.lt;have hne:((d:Int)==60)=false:=by simp;omega
 obtain ⟨w0,hw0⟩:∃ w0,(w.setCell ⟨bp,1,none⟩ (.int .i64 ((d:Int)+1))).alloc (.cells #[.int .i64 0,.string ⟨#[]⟩,.int .u32 0,.int .i64 0,.slice none 0 0,.slice none 0 0] 62)=w0:=⟨_,rfl⟩;have hsz:(w.setCell ⟨bp,1,none⟩ (.int .i64 ((d:Int)+1))).heap.size=w.heap.size:=by simp
 have hp0:PS w0 bp l (d+1):=by
  have h:=(hp.deep (d+1)).below ((Below.refl _ _).alloc (Nat.le_refl _) (.cells #[.int .i64 0,.string ⟨#[]⟩,.int .u32 0,.int .i64 0,.slice none 0 0,.slice none 0 0] 62));rw [←hw0];exact_mod_cast h
 have hB:Blk w0 w.heap.size 62 #[.int .i64 0,.string ⟨#[]⟩,.int .u32 0,.int .i64 0,.slice none 0 0,.slice none 0 0]:=by rw [←hw0,←hsz];exact Blk.new _ _ _
 have hU0:UB bp w w0:=by rw [←hw0];exact ((Upd.refl (fun b=>b=bp) w).setCell (fun _=>rfl) _).alloc _
 have HS:=Hi (hS w0 hp0);have HB:=Hi hB;have HW:=Hi hw0;have HU0:=Hi hU0;clear hp hp0 hB hU0 hw0 hS hsz;go_enter Tryz.func136,Tryz.ntmps136;go_wp2_with fail
 rw [HW.out];refine HS.out.mono ?_;rintro e w1 (⟨k,a,s,n,A,la,cA,B,lb,cB,x,r,rfl,hT,hR,hP,hG,hr,hU⟩ | ⟨a,er,rfl,hR,hU⟩)
 ·obtain ⟨g1,g3⟩:=hP.dc;have h1:Blk w1 w.heap.size 62 #[.int .i64 0,.string ⟨#[]⟩,.int .u32 0,.int .i64 0,.slice none 0 0,.slice none 0 0]:=HB.out.upd hU (by omega);obtain ⟨⟨e0,e1,e2,e3,e4,e5⟩,z0,z1,z2,z3,z4,z5⟩:=Blk.c6 h1;have hlt1:=hP.lt;have hlg:=h1.lt;have hgb:w.heap.size≠bp:=by omega
  have H1:=Hi h1;have HT:=Hi hT;have HR:=Hi hR;have HP:=Hi hP;have HG:=Hi hG;have HU:=Hi hU;clear h1 hT hR hP hG hU;go_wp2_with fail
  refine bodyPost_ret (resNd rfl rfl ((Blk.put6 (H1.out.far hgb _) _ _ _ _ _ _).alloc _) rfl) rfl ?_;have hs1:UB bp w1 (w1.setCell ⟨bp,1,none⟩ (.int .i64 (d:Int))):=(Upd.refl (fun b=>b=bp) w1).setCell (fun _=>rfl) _;exact (out_ok hlt HB.out.lt (TIn.far HT.out hs1 fun b hb=>by have:=HB.out.lt;omega) HR.out (HP.out.deep d) HG.out hr ((HU0.out.trans HU.out).trans hs1)).below ((Below.refl _ _).alloc (Nat.le_refl _) _)
 ·have HR:=Hi hR;have HU:=Hi (HU0.out.trans hU);clear hR hU;go_wp2_with fail
  exact ⟨rfl,.inr ⟨a,er,rfl,HR.out,HU.out⟩⟩
theorem within_unary(R:Out→Prop)(w:World)(bp d:Nat)(l:List Tk)(hd:d < 60)(hp:PS w bp l d)
  (hS:∀ w0,PS w0 bp l (d+1)→Calls Tryz.prog 159 #[.pointer (some ⟨bp,0,none⟩)] w0 (OutP w0 bp (d+1) l R)) :
  Calls Tryz.prog 136 #[.pointer (some ⟨bp,0,none⟩),.func (.func 159) #[.pointer (some ⟨bp,0,none⟩)] #[]] w (OutP w bp d l R):=by
 obtain ⟨f1,f3⟩:=hp.dc;have hlt:=hp.lt;have hne:((d:Int)==60)=false:=by simp;omega
 obtain ⟨w0,hw0⟩:∃ w0,(w.setCell ⟨bp,1,none⟩ (.int .i64 ((d:Int)+1))).alloc (.cells #[.int .i64 0,.string ⟨#[]⟩,.int .u32 0,.int .i64 0,.slice none 0 0,.slice none 0 0] 62)=w0:=⟨_,rfl⟩;have hsz:(w.setCell ⟨bp,1,none⟩ (.int .i64 ((d:Int)+1))).heap.size=w.heap.size:=by simp
 have hp0:PS w0 bp l (d+1):=by
  have h:=(hp.deep (d+1)).below ((Below.refl _ _).alloc (Nat.le_refl _) (.cells #[.int .i64 0,.string ⟨#[]⟩,.int .u32 0,.int .i64 0,.slice none 0 0,.slice none 0 0] 62));rw [←hw0];exact_mod_cast h
 have hB:Blk w0 w.heap.size 62 #[.int .i64 0,.string ⟨#[]⟩,.int .u32 0,.int .i64 0,.slice none 0 0,.slice none 0 0]:=by rw [←hw0,←hsz];exact Blk.new _ _ _
 have hU0:UB bp w w0:=by rw [←hw0];exact ((Upd.refl (fun b=>b=bp) w).setCell (fun _=>rfl) _).alloc _
 have HS:=Hi (hS w0 hp0);have HB:=Hi hB;have HW:=Hi hw0;have HU0:=Hi hU0;clear hp hp0 hB hU0 hw0 hS hsz;go_enter Tryz.func136,Tryz.ntmps136;go_wp2_with fail
 rw [HW.out];refine HS.out.mono ?_;rintro e w1 (⟨k,a,s,n,A,la,cA,B,lb,cB,x,r,rfl,hT,hR,hP,hG,hr,hU⟩ | ⟨a,er,rfl,hR,hU⟩)
 ·obtain ⟨g1,g3⟩:=hP.dc;have h1:Blk w1 w.heap.size 62 #[.int .i64 0,.string ⟨#[]⟩,.int .u32 0,.int .i64 0,.slice none 0 0,.slice none 0 0]:=HB.out.upd hU (by omega);obtain ⟨⟨e0,e1,e2,e3,e4,e5⟩,z0,z1,z2,z3,z4,z5⟩:=Blk.c6 h1;have hlt1:=hP.lt;have hlg:=h1.lt;have hgb:w.heap.size≠bp:=by omega
  have H1:=Hi h1;have HT:=Hi hT;have HR:=Hi hR;have HP:=Hi hP;have HG:=Hi hG;have HU:=Hi hU;clear h1 hT hR hP hG hU;go_wp2_with fail
  refine bodyPost_ret (resNd rfl rfl ((Blk.put6 (H1.out.far hgb _) _ _ _ _ _ _).alloc _) rfl) rfl ?_;have hs1:UB bp w1 (w1.setCell ⟨bp,1,none⟩ (.int .i64 (d:Int))):=(Upd.refl (fun b=>b=bp) w1).setCell (fun _=>rfl) _;exact (out_ok hlt HB.out.lt (TIn.far HT.out hs1 fun b hb=>by have:=HB.out.lt;omega) HR.out (HP.out.deep d) HG.out hr ((HU0.out.trans HU.out).trans hs1)).below ((Below.refl _ _).alloc (Nat.le_refl _) _)
 ·have HR:=Hi hR;have HU:=Hi (HU0.out.trans hU);clear hR hU;go_wp2_with fail
  exact ⟨rfl,.inr ⟨a,er,rfl,HR.out,HU.out⟩⟩
theorem within_inner(R:Out→Prop)(w:World)(bp d:Nat)(l:List Tk)(hd:d < 60)(hp:PS w bp l d)
  (hS:∀ w0,PS w0 bp l (d+1)→Calls Tryz.prog 88 #[.pointer (some ⟨bp,0,none⟩)] w0 (OutP w0 bp (d+1) l R)) :
  Calls Tryz.prog 136 #[.pointer (some ⟨bp,0,none⟩),.func (.func 88) #[.pointer (some ⟨bp,0,none⟩)] #[]] w (OutP w bp d l R):=by
 obtain ⟨f1,f3⟩:=hp.dc;have hlt:=hp.lt;have hne:((d:Int)==60)=false:=by simp;omega
 obtain ⟨w0,hw0⟩:∃ w0,(w.setCell ⟨bp,1,none⟩ (.int .i64 ((d:Int)+1))).alloc (.cells #[.int .i64 0,.string ⟨#[]⟩,.int .u32 0,.int .i64 0,.slice none 0 0,.slice none 0 0] 62)=w0:=⟨_,rfl⟩;have hsz:(w.setCell ⟨bp,1,none⟩ (.int .i64 ((d:Int)+1))).heap.size=w.heap.size:=by simp
 have hp0:PS w0 bp l (d+1):=by
  have h:=(hp.deep (d+1)).below ((Below.refl _ _).alloc (Nat.le_refl _) (.cells #[.int .i64 0,.string ⟨#[]⟩,.int .u32 0,.int .i64 0,.slice none 0 0,.slice none 0 0] 62));rw [←hw0];exact_mod_cast h
 have hB:Blk w0 w.heap.size 62 #[.int .i64 0,.string ⟨#[]⟩,.int .u32 0,.int .i64 0,.slice none 0 0,.slice none 0 0]:=by rw [←hw0,←hsz];exact Blk.new _ _ _
 have hU0:UB bp w w0:=by rw [←hw0];exact ((Upd.refl (fun b=>b=bp) w).setCell (fun _=>rfl) _).alloc _
 have HS:=Hi (hS w0 hp0);have HB:=Hi hB;have HW:=Hi hw0;have HU0:=Hi hU0;clear hp hp0 hB hU0 hw0 hS hsz;go_enter Tryz.func136,Tryz.ntmps136;go_wp2_with fail
 rw [HW.out];refine HS.out.mono ?_;rintro e w1 (⟨k,a,s,n,A,la,cA,B,lb,cB,x,r,rfl,hT,hR,hP,hG,hr,hU⟩ | ⟨a,er,rfl,hR,hU⟩)
 ·obtain ⟨g1,g3⟩:=hP.dc;have h1:Blk w1 w.heap.size 62 #[.int .i64 0,.string ⟨#[]⟩,.int .u32 0,.int .i64 0,.slice none 0 0,.slice none 0 0]:=HB.out.upd hU (by omega);obtain ⟨⟨e0,e1,e2,e3,e4,e5⟩,z0,z1,z2,z3,z4,z5⟩:=Blk.c6 h1;have hlt1:=hP.lt;have hlg:=h1.lt;have hgb:w.heap.size≠bp:=by omega
  have H1:=Hi h1;have HT:=Hi hT;have HR:=Hi hR;have HP:=Hi hP;have HG:=Hi hG;have HU:=Hi hU;clear h1 hT hR hP hG hU;go_wp2_with fail
  refine bodyPost_ret (resNd rfl rfl ((Blk.put6 (H1.out.far hgb _) _ _ _ _ _ _).alloc _) rfl) rfl ?_;have hs1:UB bp w1 (w1.setCell ⟨bp,1,none⟩ (.int .i64 (d:Int))):=(Upd.refl (fun b=>b=bp) w1).setCell (fun _=>rfl) _;exact (out_ok hlt HB.out.lt (TIn.far HT.out hs1 fun b hb=>by have:=HB.out.lt;omega) HR.out (HP.out.deep d) HG.out hr ((HU0.out.trans HU.out).trans hs1)).below ((Below.refl _ _).alloc (Nat.le_refl _) _)
 ·have HR:=Hi hR;have HU:=Hi (HU0.out.trans hU);clear hR hU;go_wp2_with fail
  exact ⟨rfl,.inr ⟨a,er,rfl,HR.out,HU.out⟩⟩
end
section
attribute [local go_sem] fTk0 fTk1 fTk2
def ExC(n:Nat):Prop:=∀ (w:World) (bp d:Nat) (l:List Tk),l.length≤n→d≤60→PS w bp l d→Gt l →
 Calls Tryz.prog 109 #[.pointer (some ⟨bp,0,none⟩)] w (OutP w bp d l (Rd numV (.lev 0) d l))
theorem within_e{n:Nat}(H:ExC n)(w:World)(bp d:Nat)(l:List Tk)(hn:l.length≤n)(hd:d≤60)(hp:PS w bp l d)(hg:Gt l) :
  Calls Tryz.prog 136 #[.pointer (some ⟨bp,0,none⟩),.func (.func 109) #[.pointer (some ⟨bp,0,none⟩)] #[]] w (OutP w bp d l (Rd numV (.lev 0) (d+1) l)):=by
 rcases Nat.lt_or_ge d 60 with h | h
 ·exact within_expr _ w bp d l h hp fun w0 hp0=>H w0 bp (d+1) l hn (by omega) hp0 hg
 ·obtain rfl:d = 60:=by omega
  obtain ⟨t,r,rfl⟩:=hg.cons;exact (within_deep _ w bp t r hp).mono fun e w' h=>.inr ⟨_,_,h.1,r_deep0 (by omega),h.2⟩
theorem ar_ok{num:Bs→Nat×Nat}{d a:Nat}{s:Bs}{r r1 r3:List Tk}{x:Tr}{xs:List Tr}{v:Tk}(h:Rd num (.lev 0) (d+1) r (.ok [x] r1))(h2:Rd num (.args [x]) (d+1) r1 (.ok xs (v :: r3)))(hv:isS [41] v=true):Ev (fun f=>ArK num f d a s r) (.ok [.mk 5 a s 0 [] xs] r3):=
 ev_bnd (K:=fun f xs r''=>bnd (pF num f (.args xs) (d+1) r'') fun ys r3=>must [41] r3 fun r4=>some (.ok [.mk 5 a s 0 [] ys] r4)) h
  (ev_bnd (K:=fun _ ys r3=>must [41] r3 fun r4=>some (.ok [.mk 5 a s 0 [] ys] r4)) h2 (ev_eq (ev_now _) fun _=>must_y hv _))
theorem ar_end{num:Bs→Nat×Nat}{d a:Nat}{s:Bs}{r r1 r3:List Tk}{x:Tr}{xs:List Tr}{v:Tk}(h:Rd num (.lev 0) (d+1) r (.ok [x] r1))(h2:Rd num (.args [x]) (d+1) r1 (.ok xs (v :: r3)))(hv:isS [41] v=false):Ev (fun f=>ArK num f d a s r) (.bad v.at_ 100):=
 ev_bnd (K:=fun f xs r''=>bnd (pF num f (.args xs) (d+1) r'') fun ys r3=>must [41] r3 fun r4=>some (.ok [.mk 5 a s 0 [] ys] r4)) h
  (ev_bnd (K:=fun _ ys r3=>must [41] r3 fun r4=>some (.ok [.mk 5 a s 0 [] ys] r4)) h2 (ev_eq (ev_now _) fun _=>must_n hv _))
theorem ar_bad1{num:Bs→Nat×Nat}{d a p e:Nat}{s:Bs}{r r1:List Tk}{x:Tr}(h:Rd num (.lev 0) (d+1) r (.ok [x] r1))(h2:Rd num (.args [x]) (d+1) r1 (.bad p e)):Ev (fun f=>ArK num f d a s r) (.bad p e):=
 ev_bnd (K:=fun f xs r''=>bnd (pF num f (.args xs) (d+1) r'') fun ys r3=>must [41] r3 fun r4=>some (.ok [.mk 5 a s 0 [] ys] r4)) h
  (ev_bad (K:=fun _ ys r3=>must [41] r3 fun r4=>some (.ok [.mk 5 a s 0 [] ys] r4)) h2)
theorem ar_bad{num:Bs→Nat×Nat}{d a p e:Nat}{s:Bs}{r:List Tk}(h:Rd num (.lev 0) (d+1) r (.bad p e)):Ev (fun f=>ArK num f d a s r) (.bad p e):=
 ev_bad (K:=fun f xs r''=>bnd (pF num f (.args xs) (d+1) r'') fun ys r3=>must [41] r3 fun r4=>some (.ok [.mk 5 a s 0 [] ys] r4)) h
def ArP(w:World)(bp d:Nat)(l:List Tk)(q:List Tk)(e:Ending)(w':World):Prop:=
 (∃ g c xs r,e = .returned (.slice (some ⟨g,0,none⟩) xs.length c)∧ArrT 62 w.heap.size w' g c xs∧xs.length≤4000∧(∀ a s,Ev (fun f=>ArK numV f d a s q) (.ok [.mk 5 a s 0 [] xs] r))∧PS w' bp r d∧Gt r∧r.length < l.length∧UB bp w w') ∨
 (∃ a er,e=panV a er∧(∀ p s,Ev (fun f=>ArK numV f d p s q) (.bad a er))∧UB bp w w')
structure ArI(w:World)(bp d:Nat)(q:List Tk)(x0:Tr)(r1:List Tk)(xs:List Tr)(l:List Tk)(g c:Nat)(W:World):Prop where
 rd:∀ o,Rd numV (.args xs) (d+1) l o→Rd numV (.args [x0]) (d+1) r1 o
 ps:PS W bp l d
 gt:Gt l
 lt:l.length < q.length
 arr:ArrT 62 w.heap.size W g c xs
 few:xs.length+l.length≤4000
 ub:UB bp w W
theorem infoNd:(Tryz.prog.info? 62).map (fun i=>(i.zero,i.size,i.bytes))=some (some (.agg #[.int .i64 0,.string ⟨#[]⟩,.int .u32 0,.int .i64 0,.slice none 0 0,.slice none 0 0]),6,88):=by kernel_rfl
theorem arguments{n:Nat}(H:ExC n)(w:World)(bp d:Nat)(u:Tk)(q:List Tk)(hn:q.length≤n)(hd:d≤60)(hp:PS w bp (u :: q) d)(hg:Gt (u :: q))(hu:(u.s==[40])=true) :
  Calls Tryz.prog 183 #[.pointer (some ⟨bp,0,none⟩)] w (ArP w bp d (u :: q) q):=by
 have hlt:=hp.lt;obtain ⟨i0,hi,hz⟩:=Option.map_eq_some_iff.1 infoNd;have hz0:=congrArg (·.1) hz;have hz1:=congrArg (·.2.1) hz;have hz2:=congrArg (·.2.2) hz;have HI:=Hi hi;have HZ0:=Hi hz0;have HZ1:=Hi hz1;have HZ2:=Hi hz2;clear hi hz hz0 hz1 hz2;have hk:u.k≠0:=by
  have:=okt_lit hg.hd (by rw [eq_of_beq hu];decide);omega
 have hgq:=hg.tail hk;obtain ⟨t0,q0,hq0⟩:=hgq.cons;have HM:=Hi (must_yes w bp d u q [40] hp hu (by rw [hq0];simp));have HGQ:=Hi hgq;clear hp hg hu hk hgq hq0;go_enter Tryz.func183,Tryz.ntmps183;go_wp2_with fail
 refine HM.out.mono ?_;rintro e w1 ⟨rfl,hp1,hu1⟩;have HE:=Hi (within_e H w1 bp d q hn hd hp1 HGQ.out);have HU1:=Hi hu1;clear hp1 hu1;go_wp2_with fail
 refine HE.out.mono ?_;rintro e w2 (⟨k,a,s,m,A,la,cA,B,lb,cB,x,r,rfl,hT,hR,hP,hG,hr,hU⟩ | ⟨a,er,rfl,hR,hU⟩);rotate_left
 ·have HR:=Hi hR;have HU:=Hi (HU1.out.trans hU);clear hR hU;go_wp2_with fail
  exact ⟨rfl,.inr ⟨a,er,rfl,fun p s=>ar_bad HR.out,HU.out⟩⟩
 have hJ:ArI w bp d (u :: q) x r [x] r w2.heap.size 1 (w2.alloc (.cells #[.int .i64 (k:Int),.string ⟨s.toArray⟩,.int .u32 (m:Int),.int .i64 (a:Int),.slice A la cA,.slice B lb cB] 62)):=
  ⟨fun o h=>h,hP.below ((Below.refl _ _).alloc (Nat.le_refl _) _),hG,by simp;omega,ArrT.first (hT.up HU1.out.size) (HU1.out.trans hU).size,by have:=HGQ.out.few;simp;omega,(HU1.out.trans hU).alloc _⟩
 have HJ:=Hi hJ;have HR0:=Hi hR;clear hJ hT hR hP hG hU;go_wp2_with fail
 go_loopw [3] (fun vl wr=>∃ xs l' g c,vl = .slice (some ⟨g,0,none⟩) xs.length c∧Hid (ArI w bp d (u :: q) x r xs l' g c wr)) (fun _ wr=>lenAt wr bp)
 case atStart=>exact ⟨[x],r,_,_,rfl,HJ⟩
 case round=>
  clear HJ;obtain ⟨xs,l',g,c,rfl,HH⟩:=hrel;obtain ⟨t,r',rfl⟩:=HH.out.gt.cons;have HIS:=Hi (is_ wr bp d t r' [44] HH.out.ps);by_cases hc:(t.s==[44])=true
  ·rw [hc] at HIS;have hk:t.k≠0:=by
    have:=okt_lit HH.out.gt.hd (by rw [eq_of_beq hc];decide);omega
   have hon:isS [44] t=true:=by rw [isS_eq HH.out.gt.hd (by decide)];exact hc
   have hgr:=HH.out.gt.tail hk;obtain ⟨t2,r2,hr2⟩:=hgr.cons;have hln:r'.length≤n:=by have:=HH.out.lt;simp at this;omega
   have HT:=Hi fun (w3:World) (hb3:Below wr.heap.size wr w3)=>take w3 bp d t r' (HH.out.ps.below hb3) (by rw [hr2];simp)
   have HGR:=Hi hgr;clear hc hgr hr2;go_wp2_with fail
   refine HIS.out.mono ?_;rintro e w3 ⟨rfl,hb3⟩;have HT3:=Hi (HT.out w3 hb3);have HB3:=Hi hb3;clear hb3 HT;go_wp2_with fail
   refine HT3.out.mono ?_;rintro e w4 ⟨rfl,hp4,hu4⟩;have HE4:=Hi (within_e H w4 bp d r' hln hd hp4 HGR.out);have HU4:=Hi ((below_UB (bp:=bp) HB3.out).trans hu4);clear hp4 hu4;go_wp2_with fail
   refine HE4.out.mono ?_;rintro e w5 (⟨k',a',s',m',A',la',cA',B',lb',cB',x',r5,rfl,hT,hR,hP,hG,hr,hU⟩ | ⟨a',er,rfl,hR,hU⟩)
   ·obtain ⟨css,how,hts⟩:=HH.out.arr;have hu5:UB bp wr w5:=HU4.out.trans hU;have hT5:TIn (fun b=>wr.heap.size≤b) w5 x' (ndC k' a' s' m' A' la' cA' B' lb' cB'):=hT.up HU4.out.size;have HOA:=Hi (World.ownsRow.alloc (own_upd3 how hu5 (by have:=(own_at how).1;omega)) (.cells #[.int .i64 (k':Int),.string ⟨s'.toArray⟩,.int .u32 (m':Int),.int .i64 (a':Int),.slice A' la' cA',.slice B' lb' cB'] 62));have HLI:=Hi (lies_full w5 62 (ndC k' a' s' m' A' la' cA' B' lb' cB'));have hsz:w.heap.size≤w5.heap.size:=Nat.le_trans HH.out.ub.size hu5.size;have HBS:=Hi (show w.heap.size≤(w5.alloc (.cells #[.int .i64 (k':Int),.string ⟨s'.toArray⟩,.int .u32 (m':Int),.int .i64 (a':Int),.slice A' la' cA',.slice B' lb' cB'] 62)).heap.size by simp;omega);have hfew:=HH.out.few;simp only [List.length_cons] at hfew;have HOW:=Hi how;have HTS:=Hi hts;have HU5:=Hi hu5;have HT5:=Hi hT5;have HR5:=Hi hR;have HP5:=Hi hP;have HG5:=Hi hG;clear how hts hu5 hT5 hT hR hP hG hU hsz;go_wp2_with (at_builtin;refine wpList_where rfl _ _ 59 rfl w.heap.size 62 i0 (.agg #[.int .i64 0,.string ⟨#[]⟩,.int .u32 0,.int .i64 0,.slice none 0 0,.slice none 0 0]) 6 88 Tryz.underlying59 HI.out HZ0.out HZ1.out HZ2.out rfl (by decide) _ xs.length _ rfl HOA.out ⟨w5.heap.size,0,none⟩ 1 1 (ndC k' a' s' m' A' la' cA' B' lb' cB') rfl rfl HLI.out (by simp [ndC,Value.oneCell']) (by unfold maxLen;omega) (by omega) HBS.out (by decide) ?_;intro g8 c8 w8 hE;have HE8:=Hi hE;clear hE)
    have HST:=Hi (arr_step HOW.out HTS.out hlt HU5.out HT5.out HE8.out);have HJ8:Hid (ArI w bp d (u :: q) x r (xs ++ [x']) r5 g8 c8 w8):=Hi ⟨fun o h=>HH.out.rd o (r_args hon HR5.out h),HP5.out.far HST.out.2.2 fun b hb=>by have:=(own_at HOW.out).1;omega,HG5.out,by have:=HH.out.lt;simp at this ⊢;omega,HST.out.1,by simp;omega,HST.out.2.1 w (Nat.le_refl _) HH.out.ub⟩
    go_roundw
    case rel=>exact ⟨xs ++ [x'],r5,g8,c8,by rw [List.length_append];rfl,HJ8⟩
    case measure=>
     rw [PS.len HJ8.out.ps,PS.len HH.out.ps];simp;omega
   ·have HR:=Hi hR;have HU:=Hi ((HH.out.ub.trans HU4.out).trans hU);clear hR hU;go_wp2_with fail
    exact ⟨rfl,.inr ⟨a',er,rfl,fun p s=>ar_bad1 HR0.out (HH.out.rd _ (r_args_bad hon HR.out)),HU.out⟩⟩
  ·have hc':(t.s==[44])=false:=by simpa using hc
   rw [hc'] at HIS;have hon:isS [44] t=false:=by rw [isS_eq HH.out.gt.hd (by decide)];exact hc'
   clear hc hc';go_wp2_with fail
   refine HIS.out.mono ?_;rintro e w3 ⟨rfl,hb3⟩;by_cases hv:(t.s==[41])=true
   ·have hk:t.k≠0:=by
     have:=okt_lit HH.out.gt.hd (by rw [eq_of_beq hv];decide);omega
    have hgr:=HH.out.gt.tail hk;obtain ⟨t2,r2,hr2⟩:=hgr.cons;have HM3:=Hi (must_yes w3 bp d t r' [41] (HH.out.ps.below hb3) hv (by rw [hr2];simp));have hon2:isS [41] t=true:=by rw [isS_eq HH.out.gt.hd (by decide)];exact hv
    have HB3:=Hi hb3;have HGR:=Hi hgr;clear hb3 hv hgr hr2;go_wp2_with fail
    refine HM3.out.mono ?_;rintro e w4 ⟨rfl,hp4,hu4⟩;have HP4:=Hi hp4;have HU4:=Hi hu4;clear hp4 hu4;go_wp2_with fail
    go_ret;have hu4:UB bp wr w4:=(below_UB HB3.out).trans HU4.out;refine .inl ⟨g,c,xs,r',rfl,HH.out.arr.upd hu4 (fun b hb=>by omega),by have:=HH.out.few;omega,fun p s=>ar_ok HR0.out (HH.out.rd _ (r_args_stop hon)) hon2,HP4.out,HGR.out,by have:=HH.out.lt;simp at this ⊢;omega,HH.out.ub.trans hu4⟩
   ·have hv':(t.s==[41])=false:=by simpa using hv
    have HM3:=Hi (must_no w3 bp d t r' [41] (HH.out.ps.below hb3) hv');have hon2:isS [41] t=false:=by rw [isS_eq HH.out.gt.hd (by decide)];exact hv'
    have HB3:=Hi hb3;clear hb3 hv hv';go_wp2_with fail
    refine HM3.out.mono ?_;rintro e w4 ⟨rfl,hu4⟩;have HU4:=Hi hu4;clear hu4;go_wp2_with fail
    exact ⟨rfl,.inr ⟨t.at_,100,rfl,fun p s=>ar_end HR0.out (HH.out.rd _ (r_args_stop hon)) hon2,HH.out.ub.trans ((below_UB HB3.out).trans HU4.out)⟩⟩
end
end Go.Proofs.YtdhoemlomojfaaaGreatDoor.Pa
