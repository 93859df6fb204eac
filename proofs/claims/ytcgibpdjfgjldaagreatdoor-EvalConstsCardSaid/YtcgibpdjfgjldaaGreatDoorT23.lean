/- DERIVED. NmRv, NmRz, EvRu, EvInf, EvSt, FlEq, FlMu. By an AI agent. -/
import Derived.Test.YtcgibpdjfgjldaaGreatDoorT22
import Derived.Test.YtcgibpdjfgjldaaGreatDoorT21
import Derived.Deep.CutBlock
set_option maxRecDepth 100000
set_option maxHeartbeats 4000000
set_option linter.unusedVariables false
set_option linter.unusedSimpArgs false
namespace Go.Proofs.YtcgibpdjfgjldaaGreatDoor
namespace Nm
open Go Go.ChangeShapes Go.WideShapes Go.ChangeAt Go.RowKit Lx Args Pa Sh
def rvT:Nat->TypeId
 | 4=>3
 | 7=>36
 | _=>9
def rvZ:Nat->Nat
 | 7=>3
 | _=>1
def rvN(d:RS):Nat->Nat
 | 0=>d.inn.length
 | 1=>d.var.length
 | 2=>d.loo.length
 | 3=>d.fn.length
 | 4=>d.many.length
 | 5=>d.se.length
 | 6=>d.pu.length
 | _=>d.ou.length
def rvX(d:RS):Nat->List Value
 | 0=>d.inn.map strV
 | 1=>d.var.map strV
 | 2=>d.loo.map strV
 | 3=>d.fn.map strV
 | 4=>d.many.map intV
 | 5=>d.se.map strV
 | 6=>d.pu.map strV
 | _=>d.ou.flatMap laC
def rvC:Nat->Nat
 | 5=>7
 | 6=>8
 | 7=>9
 | i=>i
def setV(v:Nat->Value)(i:Nat)(u:Value):Nat->Value:=fun j=>if j=i then u else v j
structure RV(N:Nat->Prop)(lo:Nat)(w:World)(g:Nat)(v:Nat->Value)(d:RS):Prop where
 blk:∃ ba,Blk w g 70 #[v 0,v 1,v 2,v 3,v 4,.int .i64 ba,.bool d.bad.isSome,v 5,v 6,v 7]/\∀ a,d.bad=some a->ba=a
 own:∀ i,i < 8->w.ownsRow lo (rvT i) (rvZ i) (v i) (rvN d i) (rvX d i)
 dis:∀ i j,i < 8->j < 8->i≠j->∀ b,(v i).ownBlock=some b->(v j).ownBlock≠some b
 far:∀ i,i < 8->(v i).ownBlock≠some g
 inN:N g/\∀ i,i < 8->∀ b,(v i).ownBlock=some b->N b
 low:lo<=g/\lo<=w.heap.size
 len:d.many.length=d.fn.length
section
variable {N N' X : Nat -> Prop} {lo : Nat} {w w' : World} {g : Nat} {v : Nat -> Value} {d d' : RS}
theorem RV.lt(h:RV N lo w g v d):g < w.heap.size:=by obtain ⟨_,h,_⟩:=h.blk;exact h.lt
theorem q3s{l:List Bs}{u:Value}(h:w.ownsRow lo 9 1 u l.length (l.map strV))(hg:u.ownBlock≠some g):StL w g u l:=by
 obtain ⟨A,c,rfl⟩:=q0x h;exact ⟨A,c,rfl,q0K h,q6y h,fun b o e _ hb=>hg (by rw [e,hb];rfl)⟩
theorem inL_own{l:List Nat}{u:Value}(h:w.ownsRow lo 3 1 u l.length (l.map intV))(hg:u.ownBlock≠some g):InL w g u l:=by
 obtain ⟨A,c,rfl⟩:=q0x h;exact ⟨A,c,rfl,q0K h,q6y h,fun b o e _ hb=>hg (by rw [e,hb];rfl)⟩
theorem RV.ev(h:RV N lo w g v d):EV w g (v 0) (v 1) (v 2) (v 3) (v 4) (v 5) (v 6) (v 7) d d.bad:=
 ⟨h.blk,q3s (h.own 0 V2) (h.far 0 V2),q3s (h.own 1 V2) (h.far 1 V2),q3s (h.own 2 V2) (h.far 2 V2),q3s (h.own 3 V2) (h.far 3 V2),inL_own (h.own 4 V2) (h.far 4 V2),h.len⟩
theorem RV.mono(h:RV N lo w g v d)(hN:∀ b,N b->b < w.heap.size->N' b):RV N' lo w g v d:=
 ⟨h.blk,h.own,h.dis,h.far,⟨hN g h.inN.1 h.lt,fun i hi b hb=>hN b (h.inN.2 i hi b hb) (own_atV (h.own i hi) b hb).2⟩,h.low,h.len⟩
theorem RV.upd(h:RV N lo w g v d)(hu:Upd X w w')(hg:¬ X g)(hX:∀ i,i < 8->∀ b,(v i).ownBlock=some b->¬ X b):RV N lo w' g v d:=by
 obtain ⟨ba,hb,hba⟩:=h.blk;exact ⟨⟨ba,hb.upd hu hg,hba⟩,fun i hi=>own_updV (h.own i hi) hu (hX i hi),h.dis,h.far,h.inN,⟨h.low.1,Nat.le_trans h.low.2 hu.size⟩,h.len⟩
theorem RV.below(h:RV N lo w g v d)(hb:Below w.heap.size w w'):RV N lo w' g v d:=h.upd (Upd.of_below hb fun _=>False) id fun _ _ _ _ h=>h
theorem RV.exR(h:RV N lo w g v d){bad:Option Int}(he:EV w' g (v 0) (v 1) (v 2) (v 3) (v 4) (v 5) (v 6) (v 7) d bad)(hu:Upd (fun b=>b=g) w w'):RV N lo w' g v { d with bad:=bad }:=by
 obtain ⟨ba,hb,hba⟩:=he.blk;exact ⟨⟨ba,hb,hba⟩,fun i hi=>own_updV (h.own i hi) hu fun b hb e=>h.far i hi Vn,h.dis,h.far,h.inN,⟨h.low.1,Nat.le_trans h.low.2 hu.size⟩,h.len⟩
theorem RV.row(h:RV N lo w g v d)(i:Nat)(hi:i < 8){w8:World}{u:Value}(hu:Upd (fun b=>(v i).ownBlock=some b) w w8)(hown:w8.ownsRow lo (rvT i) (rvZ i) u (rvN d' i) (rvX d' i))(hat:u.ownBlock=(v i).ownBlock\/∃ b,u.ownBlock=some b/\w.heap.size<=b)
  (hd:∀ j,j < 8->j≠i->rvN d' j=rvN d j/\rvX d' j=rvX d j) (hbad:d'.bad=d.bad) (hlen:d'.many.length=d'.fn.length) (hN:∀ b,N b->N' b) (hN':∀ b,w.heap.size<=b->b < w8.heap.size->N' b) :
  RV N' lo (w8.setCell ⟨g,rvC i,none⟩ u) g (setV v i u) d'/\Upd (fun b=>(v i).ownBlock=some b\/b=g) w (w8.setCell ⟨g,rvC i,none⟩ u):=by
 obtain ⟨ba,hb,hba⟩:=h.blk;have hg:=h.lt;have hug:u.ownBlock≠some g:=by
  rcases hat with e | ⟨b,e,hb⟩
  ·rw [e];exact h.far i hi
  ·rw [e];intro hh;cases hh;omega
 have hs:Upd (fun b=>b=g) w8 (w8.setCell ⟨g,rvC i,none⟩ u):=(Upd.refl (fun b=>b=g) w8).setCell (p:=⟨g,rvC i,none⟩) (fun _=>rfl) u;have hb8:=hb.upd hu (h.far i hi);have hset:=hb8.set (rvC i) u;have huj:∀ j,j < 8->j≠i->u.ownBlock≠none->∀ b,u.ownBlock=some b->(v j).ownBlock≠some b:=fun j hj hji _ b hub hvb=>by
  rcases hat with e | ⟨b',e,hb'⟩
  ·exact h.dis i j hi hj (Ne.symm hji) b (by rw [<-e];exact hub) hvb
  ·have hbb:b'=b:=Option.some.inj (e.symm.trans hub);have:=(own_atV (h.own j hj) b hvb).2;omega
 refine ⟨⟨⟨ba,?_,fun a ha=>hba a (by rw [<-hbad];exact ha)⟩,fun j hj=>?_,fun j k hj hk hjk b hjb hkb=>?_,fun j hj=>?_,⟨hN g h.inN.1,fun j hj b hjb=>?_⟩,⟨h.low.1,?_⟩,hlen⟩,?_⟩
 ·rw [hbad];have e:(#[v 0,v 1,v 2,v 3,v 4,.int .i64 ba,.bool d.bad.isSome,v 5,v 6,v 7]:Array Value).setIfInBounds (rvC i) u = #[setV v i u 0,setV v i u 1,setV v i u 2,setV v i u 3,setV v i u 4,.int .i64 ba,.bool d.bad.isSome,setV v i u 5,setV v i u 6,setV v i u 7]:=by
   have h8:i = 0\/i = 1\/i = 2\/i = 3\/i = 4\/i = 5\/i = 6\/i = 7:=V0;rcases h8 with rfl | rfl | rfl | rfl | rfl | rfl | rfl | rfl <;> rfl
  rw [<-e];exact hset
 ·by_cases hji:j=i
  ·subst hji;unfold setV;rw [if_pos rfl];exact own_updV hown hs fun b hb e=>hug Vn
  ·unfold setV;rw [if_neg hji,(hd j hj hji).1,(hd j hj hji).2];exact own_updV (own_updV (h.own j hj) hu fun b hb e=>h.dis i j hi hj (Ne.symm hji) b e hb) hs fun b hb e=>h.far j hj Vn
 ·unfold setV at hjb hkb;by_cases hji:j=i
  ·rw [if_pos hji] at hjb;rw [if_neg (fun e=>hjk (hji.trans e.symm))] at hkb;exact huj k hk (fun e=>hjk (hji.trans e.symm)) (by rw [hjb];simp) b hjb hkb
  ·rw [if_neg hji] at hjb;by_cases hki:k=i
   ·rw [if_pos hki] at hkb;exact huj j hj hji (by rw [hkb];simp) b hkb hjb
   ·rw [if_neg hki] at hkb;exact h.dis j k hj hk hjk b hjb hkb
 ·unfold setV;by_cases hji:j=i
  ·rw [if_pos hji];exact hug
  ·rw [if_neg hji];exact h.far j hj
 ·unfold setV at hjb;by_cases hji:j=i
  ·rw [if_pos hji] at hjb;rcases hat with e | ⟨b',e,hb'⟩
   ·exact hN b (h.inN.2 i hi b (by rw [<-e];exact hjb))
   ·have hbb:b'=b:=Option.some.inj (e.symm.trans hjb);exact hN' b V0 (own_atV hown b hjb).2
  ·rw [if_neg hji] at hjb;exact hN b (h.inN.2 j hj b hjb)
 ·have:=hu.size;have:=hs.size;have:=h.low.2;omega
 ·exact (hu.mono fun b hb=>.inl hb).trans (hs.mono fun b hb=>.inr hb)
end
theorem EaI.bad{w wx:World}{g:Nat}{v0 v1 v2 v3 v4 v7 v8 v9:Value}{d:RS}{b:Option Int}{k a:Int}{s:Bs}{n:Nat}{A:Option Addr}{la cA:Nat}{B:Option Addr}{lb cB:Nat}(hv:EaI w wx g v0 v1 v2 v3 v4 v7 v8 v9 d b (nB k a s n A la cA B lb cB))(hne:¬ w.heap.size=g)(q:Bool) :
  Calls Tryz.prog 64 #[.pointer (some ⟨g,0,none⟩),.bool q,nzA k a s n A la cA B lb cB] wx fun e w'=>e = .returned (.tuple #[])/\EaI w w' g v0 v1 v2 v3 v4 v7 v8 v9 d (orB b q a) (nB k a s n A la cA B lb cB):=
 (bad_ wx g _ _ _ _ _ _ _ _ d b q k a s n A la cA B lb cB hv.ev).mono fun e w' ⟨h1,h2,h3⟩=>⟨h1,h2,hv.up.trans h3,hv.bx.upd h3 hne⟩
theorem own_empty(w:World){lo:Nat}(hb:lo<=w.heap.size)(e:TypeId)(size:Nat):(w.alloc (.cells #[] e)).ownsRow lo e size (.slice (some ⟨w.heap.size,0,none⟩) 0 0) 0 []:=
 q1A w hb e size 0 [] V3 V2
end Nm
namespace Ev
open Go Go.ChangeShapes Go.WideShapes Go.ChangeAt Go.RowKit Lx Args Pa Sh Go.Proofs.YtcgibpdjfgjldaaGreatDoor.Nm WMath Fl
abbrev Rn(w:World)(g:Nat)(cst fm:Value)(mb:Nat)(lo se pu ou:Value):Prop:=Blk w g 147 #[cst,fm,.map (some mb),lo,se,pu,ou]
theorem Blk.c7{w:World}{g:Nat}{t:TypeId}{a b c d e f h:Value}(H:Blk w g t #[a,b,c,d,e,f,h]):(w.cell? ⟨g,0,none⟩=some a/\w.cell? ⟨g,1,none⟩=some b/\w.cell? ⟨g,2,none⟩=some c/\w.cell? ⟨g,3,none⟩=some d/\w.cell? ⟨g,4,none⟩=some e/\w.cell? ⟨g,5,none⟩=some f/\w.cell? ⟨g,6,none⟩=some h) /\
  w.frozen? ⟨g,0,none⟩=false/\w.frozen? ⟨g,1,none⟩=false/\w.frozen? ⟨g,2,none⟩=false/\w.frozen? ⟨g,3,none⟩=false/\w.frozen? ⟨g,4,none⟩=false/\w.frozen? ⟨g,5,none⟩=false/\w.frozen? ⟨g,6,none⟩=false:=
 ⟨⟨H.cell 0,H.cell 1,H.cell 2,H.cell 3,H.cell 4,H.cell 5,H.cell 6⟩,H.frozen 0,H.frozen 1,H.frozen 2,H.frozen 3,H.frozen 4,H.frozen 5,H.frozen 6⟩
def kOf:Tz->Int | .mk k _ _ _ _ _=>k
theorem learn0{w0:World}{A:Option Addr}{c:Nat}{l:List Tz}(hP:Pts w0 A c l)(hk:∀ y∈l,kOf y≠12/\kOf y≠11)(g:Nat)(w:World)(hb:Below w0.heap.size w0 w) :
  Calls Tryz.prog 86 #[.pointer (some ⟨g,0,none⟩),.slice A l.length c] w fun e w'=>e = .returned (.tuple #[])/\Below w.heap.size w w':=by
 have HP:=Hi hP;have HB:=Hi hb;have HK:=Hi hk;have hlm:l.length<=9223372036854775807:=Nat.le_trans hP.le hP.cap;clear hP hb hk;go_enter Tryz.func86,Tryz.ntmps86;go_wp2_with fail
 go_loopw [8] (fun vi wr=>∃ i:Nat,i<=l.length/\vi = .int .i64 (i:Int)/\Hid (Below w.heap.size w wr)) (fun vi _=>l.length - (intOf vi).toNat)
 case atStart=>exact ⟨0,V0,rfl,Hi (Below.refl _ _)⟩
 case round=>
  obtain ⟨i,hi,rfl,HR⟩:=hrel;by_cases hlt:i < l.length
  ·have hil:(i:Int) < (l.length:Int):=by omega
   obtain ⟨y,hy⟩:∃ y,l[i]?=some y:=⟨_,List.getElem?_eq_getElem hlt⟩;have hb0:=HB.out.trans (HR.out.mono HB.out.size);obtain ⟨b9,o9,k',a',s',n',A',la',cA',B',lb',cB',hA9,hTy,hbl,g0',g1,g2,g3,g4,g5⟩:=HP.out.at_ hb0 hy;subst hA9;obtain ⟨k1,a1,s1,n1,ps1,l1⟩:=y;obtain ⟨rfl,-,-,-,-,-,-⟩:=hTy.parts;obtain ⟨h12,h11⟩:=HK.out _ (List.mem_of_getElem? hy);have i12:(k'==12)=false:=by simpa using (show k'≠12 from h12)
   have i11:(k'==11)=false:=by simpa using (show k'≠11 from h11)
   obtain ⟨wb,hwb,hbb,hXb,hsb⟩:=q05 wr (nB k' a' s' n' A' la' cA' B' lb' cB');obtain ⟨⟨e0,e1,e2,e3,e4,e5⟩,z0,z1,z2,z3,z4,z5⟩:=Blk.c6 hXb;have hgl:=hXb.lt;have hbl2:b9 < wr.heap.size:=Nat.lt_of_lt_of_le hbl hb0.size;have HN:=Hi (HR.out.trans (hbb.mono HR.out.size));have HWB:=Hi hwb;clear hTy hbl hb0 hy hwb hbb hXb hsb h12 h11;go_upto_region 3 with fail
   rw [HWB.out];clear g0' g1 g2 g3 g4 g5;go_wp2_with fail
   go_roundw
   case rel=>exact ⟨i+1,V0,V7,HN⟩
   case measure=>simp [intOf];omega
  ·obtain rfl:i=l.length:=by omega
   go_wp2_with fail
   first | go_end0 | skip
   all_goals first | exact ⟨rfl,HR.out⟩ | exact bodyPost_ret (results_none rfl _ _ _) rfl ⟨rfl,HR.out⟩
theorem input1{cst fm lo se pu ou:Value}{g mb q:Nat}{kn:Kn}(w:World)(hR:Rn w g cst fm mb lo se pu ou)(hM:MpU w mb q kn)(hq:q < 1000)(hgm:g≠mb)(p:Bs)(hp:p.length<=maxLen)(x:BitVec 32)(A:Option Addr)(c:Nat)(hA:Lies w A [strV p])(b2 c2:Nat)(hB:Lies w (some ⟨b2,0,none⟩) [uV x])(hc2:c2 = 1) :
  Calls Tryz.prog 138 #[.pointer (some ⟨g,0,none⟩),.slice A 1 c,.slice (some ⟨b2,0,none⟩) 1 c2] w fun e w'=>(∃ Av nv cv,e = .returned (.slice Av nv cv))/\MpU w' mb (q+1) (putN kn p x)/\Upd (·=mb) w w':=by
 subst hc2;have f1:([strV p]:List Value)[0]?=some (.string ⟨p.toArray⟩):=rfl;obtain ⟨b,o,rfl,hbl,hc1⟩:=hA.at_ f1;have k1:=hc1 _ _ f1;simp only [Nat.add_zero] at k1;have HAT:=Hi fun v (hv:Below w.heap.size w v)=>atU v (some ⟨b2,0,none⟩) 1 [x] (hB.below hv) 0 V3
 have HR:=Hi hR;have HM:=Hi hM;have HFIN:=Hi (show ∀ wd w',Below w.heap.size w wd->wd.mapTurned w' mb->Upd (·=mb) w w' from fun wd w' h1 h2=>(Upd.of_below h1 _).trans (q07 h2 rfl));clear hA hB hc1 f1 hR hM;go_enter Tryz.func138,Tryz.ntmps138;go_wp2_with fail
 go_loopw [11] (fun vi wr=>(vi = .int .i64 0/\wr=w)\/(vi = .int .i64 1/\Hid (MpU wr mb (q+1) (putN kn p x))/\Hid (Upd (·=mb) w wr))) (fun vi _=>1 - (intOf vi).toNat)
 case atStart=>exact .inl ⟨rfl,rfl⟩
 case round=>
  rcases hrel with ⟨rfl,rfl⟩ | ⟨rfl,HM1,HU1⟩
  ·go_wp2_with fail
   have hdr:Below wr.heap.size wr wr.drew:=Below.drew (Below.refl _ _);obtain ⟨wd,hwd⟩:∃ v,wr.drew=v:=⟨_,rfl⟩;rw [hwd] at hdr;have HRd:=Hi (HR.out.below hdr HR.out.lt);have HMd:=Hi (HM.out.upd (X:=fun _=>False) (Upd.of_below hdr fun _=>False) id);have HDR:=Hi hdr;have hZ0:Upd (·=mb) wd wd:=Upd.refl _ _;clear hdr k1;refine HT.wp_region (Z:=fun w'=>Upd (·=mb) wd w') (S:=fun _=>True) (st:=[]) V1 ?_;rw [hwd];clear hwd;refine HT.m 0 hZ0 ?_;refine HT.m 1 hZ0 ?_;refine HT.m 2 hZ0 ?_;refine HT.k 3 rfl V2V hZ0 ?_;refine HT.m 4 hZ0 ?_;refine HT.m 5 hZ0 ?_;refine HT.m 6 hZ0 ?_;refine HT.one (i:=7) V1 rfl (fun K hK=>?_);go_simp;refine (show Calls Tryz.prog 75 #[.slice (some ⟨b2,0,none⟩) 1 1,.int .i64 0] wd _ from HAT.out wd HDR.out).mono ?_;rintro e w5 ⟨rfl,rfl⟩;(try dsimp only);refine hK.out _ _ hZ0 trivial ?_;clear hK K;(try simp only [HT.pS]);obtain ⟨w6,hrun,hm6,ht6⟩:=q6o HMd.out hp (by simp only [maxLen];omega) x;have hrun':(Instr.mapUpdate 77 (.map (some mb)) (.string ⟨p.toArray⟩) (uV ([x].getD 0 0))).run Tryz.prog w5 = .ok () w6:=hrun;refine HT.one (i:=8) V1 rfl (fun K hK=>?_);go_simp;(try dsimp only);refine hK.out _ _ (q07 ht6 rfl) trivial ?_;clear hK K;(try simp only [HT.pS]);refine HT.done V1 ?_;have N1:=Hi hm6;have N2:=Hi (HFIN.out w5 w6 HDR.out ht6);clear hm6 hrun hrun' ht6 hZ0;go_wp2_with fail
   go_roundw
   case rel=>exact .inr ⟨V7,N1,N2⟩
   case measure=>simp [intOf]
  ·go_wp2_with fail
   go_ret;exact ⟨⟨_,_,_,rfl⟩,HM1.out,HU1.out⟩
theorem value1{w0:World}{cst fm lo se pu ou:Value}{g mb q:Nat}{kn:Kn}{y:Tz}(hd:mdE y)(hc:canB kn y=true)(hs:shf y=false)(w:World)(hb:Below w0.heap.size w0 w)(hR:Rn w g cst fm mb lo se pu ou)(hM:MpU w mb q kn)
  (k a:Int) (s:Bs) (n:Nat) (A:Option Addr) (cA:Nat) (B:Option Addr) (lb cB:Nat) (hP:Pts w0 A cA [y]) :
  Calls Tryz.prog 139 #[.pointer (some ⟨g,0,none⟩),nzA k a s n A 1 cA B lb cB] w (WoP w (wdB kn y)):=by
 obtain ⟨w1,hw1,hb1,hX1,hs1⟩:=q05 w (nB k a s n A 1 cA B lb cB);obtain ⟨b0,o0,k1,a1,s1,n1,A1,la1,cA1,B1,lb1,cB1,hA1,hT1,hbl1,hcel1⟩:=hP.cells (i:=0) (y:=y) rfl;subst hA1;have HAT:=Hi fun v (hv:Below w0.heap.size w0 v)=>atN (L:=1) (c:=cA) v hv V2 V2 hbl1 hcel1
 have HWD:=Hi fun v hv hm=>word (w0:=w0) (cst:=cst) (fm:=fm) (q:=q) (kb:=mb) (kn:=kn) (SizeOf.sizeOf y+1) y (Nat.lt_succ_self _) hd hc (.inr hs) v k1 a1 s1 n1 A1 la1 cA1 B1 lb1 cB1 hv hm hT1
 have HB1:=Hi hb1;have HW1:=Hi hw1;have HX1:=Hi hX1;have HB01:=Hi (hb.trans (hb1.mono hb.size));have HM1:=Hi (hM.upd (X:=fun _=>False) (Upd.of_below hb1 fun _=>False) id);have HR1:=Hi (hR.below hb1 hR.lt);unfold WoP at HWD ⊢;generalize wdB kn y=x2 at HWD ⊢;clear hw1 hb1 hX1 hs1 hT1 hbl1 hcel1 hP hb hR hM hd hc hs;go_enter Tryz.func139,Tryz.ntmps139;go_upto_region 1 with fail
 rw [HW1.out];have hdr:Below w1.heap.size w1 w1.drew:=Below.drew (Below.refl _ _);obtain ⟨wd,hwd⟩:∃ v,w1.drew=v:=⟨_,rfl⟩;rw [hwd] at hdr;have HXd:=Hi (HX1.out.below hdr HX1.out.lt);have HRd:=Hi (HR1.out.below hdr HR1.out.lt);have HBd:=Hi (HB1.out.trans (hdr.mono HB1.out.size));have HB0d:=Hi (HB01.out.trans (hdr.mono HB01.out.size));have HMd:=Hi (HM1.out.upd (X:=fun _=>False) (Upd.of_below hdr fun _=>False) id);clear hdr;have hZ0:Below wd.heap.size wd wd:=Below.refl _ _;refine HT.wp_region (Z:=fun w'=>Below wd.heap.size wd w') (S:=fun _=>True) (st:=[]) V1 ?_;rw [hwd];clear hwd;refine HT.m 0 hZ0 ?_;refine HT.m 1 hZ0 ?_;refine HT.m 2 hZ0 ?_;refine HT.k 3 rfl V1s hZ0 ?_;refine HT.k 4 rfl V8 hZ0 ?_;refine HT.k 5 rfl V8 hZ0 ?_;refine HT.m 7 hZ0 ?_;refine HT.m 8 hZ0 ?_;refine HT.m 9 hZ0 ?_;refine HT.k 10 rfl V1s hZ0 ?_;refine HT.one (i:=6) V1 rfl (fun K hK=>?_);go_simp;refine (show Calls Tryz.prog 76 #[.slice (some ⟨b0,o0,none⟩) 1 cA,.int .i64 0] wd _ from HAT.out wd HB0d.out).mono ?_;rintro e w5 ⟨rfl,hb5⟩;(try dsimp only);refine hK.out _ _ hb5 trivial ?_;clear hK K;(try simp only [HT.pS]);refine HT.one (i:=11) V1 rfl (fun K hK=>?_);go_simp;refine (show Calls Tryz.prog 37 #[.agg #[cst,fm],nzA k1 a1 s1 n1 A1 la1 cA1 B1 lb1 cB1,.map (some mb)] w5 _ from HWD.out w5 (HB0d.out.trans (hb5.mono HB0d.out.size)) (HMd.out.upd (X:=fun _=>False) (Upd.of_below hb5 fun _=>False) id)).mono ?_;rintro e w6 ⟨rfl,hb6⟩;have hz6:=hb5.trans (hb6.mono hb5.size);(try dsimp only);refine hK.out _ _ hz6 trivial ?_;clear hK K;(try simp only [HT.pS]);refine HT.m 12 hz6 ?_;refine HT.done V1 ?_;have HEND:=Hi (HBd.out.trans (hz6.mono HBd.out.size));clear hZ0 hb5 hb6 hz6;go_wp2_with fail
 go_ret;exact ⟨rfl,HEND.out⟩
end Ev
namespace Ev
open Go
theorem infoU:(Tryz.prog.info? 22).map (fun i=>(i.zero,i.size,i.bytes))=some (some (.int .u32 0),1,4):=V1
end Ev
namespace Ev
open Go Go.ChangeShapes Go.WideShapes Go.ChangeAt Go.RowKit Lx Args Pa Sh Go.Proofs.YtcgibpdjfgjldaaGreatDoor.Nm WMath Fl
theorem stS{cst fm lo pu ou:Value}{g mb q:Nat}{kn:Kn}(w:World)(x:BitVec 32)(b2:Nat)(hR:Rn w g cst fm mb lo (.slice (some ⟨b2,0,none⟩) 1 1) pu ou)(hM:MpU w mb q kn)(hq:q < 1000)(hgm:g≠mb)(p:Bs)(hp:p.length<=maxLen)
  (hB:Lies w (some ⟨b2,0,none⟩) [uV x]) (a:Int) (s:Bs) (n:Nat) (A:Option Addr) (la cA:Nat) (B:Option Addr) (cB:Nat) (hA:Lies w B [strV p]) :
  Calls Tryz.prog 117 #[.pointer (some ⟨g,0,none⟩),nzA 6 a s n A la cA B 1 cB] w fun e w'=>e = .returned (.tuple #[])/\(∃ se,Rn w' g cst fm mb lo se pu ou)/\MpU w' mb (q+1) (putN kn p x)/\Upd (fun b=>b=mb\/b=g) w w':=by
 obtain ⟨w1,hw1,hb1,hX1,hs1⟩:=q05 w (nB 6 a s n A la cA B 1 cB);have HB1:=Hi hb1;have HW1:=Hi hw1;have HX1:=Hi hX1;have HR1:=Hi (hR.below hb1 hR.lt);have HM1:=Hi (hM.upd (X:=fun _=>False) (Upd.of_below hb1 fun _=>False) id);have HA1:=Hi (hA.below hb1);have HL1:=Hi (hB.below hb1);have hmb:=hM.lt;have hgl0:=hR.lt;obtain ⟨⟨e0,e1,e2,e3,e4,e5⟩,z0,z1,z2,z3,z4,z5⟩:=Blk.c6 hX1;have hgl:=hX1.lt;clear hw1 hb1 hX1 hR hM hA hB;go_enter Tryz.func117,Tryz.ntmps117;go_upto_region 1 with fail
 rw [HW1.out];go_wp2_with fail
 have hdr:Below w1.heap.size w1 w1.drew:=Below.drew (Below.refl _ _);obtain ⟨wd,hwd⟩:∃ v,w1.drew=v:=⟨_,rfl⟩;rw [hwd] at hdr;have HXd:=Hi (HX1.out.below hdr HX1.out.lt);have HRd:=Hi (HR1.out.below hdr HR1.out.lt);have HBd:=Hi (HB1.out.trans (hdr.mono HB1.out.size));have HIN:=Hi (input1 wd (HR1.out.below hdr HR1.out.lt) (HM1.out.upd (X:=fun _=>False) (Upd.of_below hdr fun _=>False) id) hq hgm p hp x B cB (HA1.out.below hdr) b2 1 (HL1.out.below hdr) rfl);have hnm:¬ w.heap.size=mb:=V0;clear hdr e0 e1 e2 e3 e4 e5 z0 z1 z2 z3 z4 z5 hgl;have hS0:Upd (·=mb) wd wd:=Upd.refl _ _;refine HT.wp_region (Z:=fun w'=>True) (S:=fun w'=>Upd (·=mb) wd w') (st:=[11]) V1 ?_;rw [hwd];clear hwd;refine HT.tm 0 rfl trivial (fun _=>hS0) ?_;refine HT.tm 1 rfl trivial (fun _=>hS0) ?_;refine HT.tm 2 rfl trivial (fun _=>hS0) ?_;refine HT.ts 3 rfl (by intro v hSw;have hA:=HXd.out.upd hSw hnm;have E_:=Blk.c6 hA;have hga:=hA.lt;clear hSw hA;go_simp;try with_reducible rfl) trivial hS0 ?_;refine HT.tm 4 rfl trivial (fun _=>hS0) ?_;refine HT.tm 5 rfl trivial (fun _=>hS0) ?_;refine HT.tm 6 rfl trivial (fun _=>hS0) ?_;refine HT.ts 7 rfl V2V trivial hS0 ?_;refine HT.one (i:=8) V1 rfl (fun K hK=>?_);go_simp;refine (show Calls Tryz.prog 138 #[.pointer (some ⟨g,0,none⟩),.slice B 1 cB,.slice (some ⟨b2,0,none⟩) 1 1] wd _ from HIN.out).mono ?_;rintro e w5 ⟨⟨Av,nv,cv,rfl⟩,hm5,hu5⟩;(try dsimp only);refine hK.out _ _ trivial hu5 ?_;clear hK K;(try simp only [HT.pS]);refine HT.tm 9 rfl trivial (fun _=>hu5) ?_;refine HT.tm 10 rfl trivial (fun _=>hu5) ?_;have hR5:=HRd.out.upd hu5 hgm;obtain ⟨⟨r0,r1,r2,r3,r4,r5,r6⟩,q0,q1,q2,q3,q4,q5,q6⟩:=Blk.c7 hR5;have hgl:=hR5.lt;have hu6:Upd (·=g) w5 (w5.setCell ⟨g,4,none⟩ (.slice Av nv cv)):=(Upd.refl (·=g) w5).setCell (p:=⟨g,4,none⟩) (fun _=>rfl) _;have HEND:=Hi (show (∃ se,Rn (w5.setCell ⟨g,4,none⟩ (.slice Av nv cv)) g cst fm mb lo se pu ou)/\MpU (w5.setCell ⟨g,4,none⟩ (.slice Av nv cv)) mb (q+1) (putN kn p x)/\Upd (fun b=>b=mb\/b=g) w (w5.setCell ⟨g,4,none⟩ (.slice Av nv cv)) from
  ⟨⟨_,hR5.set 4 _⟩,hm5.upd hu6 (fun e=>hgm e.symm),((Upd.of_below HBd.out _).trans (hu5.mono fun b h=>.inl h)).trans (hu6.mono fun b h=>.inr h)⟩)
 clear hu6 hm5;refine HT.oneS (i:=11) V1 V1 rfl (fun K hK=>?_);go_simp;(try dsimp only);refine hK.out _ _ trivial ?_;clear hK K;(try simp only [HT.pS]);refine HT.done V1 ?_;clear hS0 hu5;go_wp2_with fail
 first | go_end0 | skip
 all_goals first | exact ⟨rfl,HEND.out⟩ | exact bodyPost_ret (results_none rfl _ _ _) rfl ⟨rfl,HEND.out⟩
theorem stO{w0:World}{cst fm lo se pu:Value}{g mb q:Nat}{kn:Kn}{y:Tz}(hd:mdE y)(hc:canB kn y=true)(hs:shf y=false)(w:World)(hb:Below w0.heap.size w0 w)(hR:Rn w g cst fm mb lo se pu (.slice none 0 0))(hM:MpU w mb q kn)
  (a:Int) (s:Bs) (n:Nat) (A:Option Addr) (cA:Nat) (B:Option Addr) (lb cB:Nat) (hP:Pts w0 A cA [y]) :
  Calls Tryz.prog 117 #[.pointer (some ⟨g,0,none⟩),nzA 8 a s n A 1 cA B lb cB] w fun e w'=>e = .returned (.tuple #[])/\(∃ A' c',Rn w' g cst fm mb lo se pu (.slice A' 1 c')/\Lies w' A' [uV (wdB kn y)])/\Upd (·=g) w w':=by
 obtain ⟨w1,hw1,hb1,hX1,hs1⟩:=q05 w (nB 8 a s n A 1 cA B lb cB);obtain ⟨j0,hj,hy0,hy1,hy2⟩:=info_parts infoU;have HJ:=Hi hj;have HY0:=Hi hy0;have HY1:=Hi hy1;have HY2:=Hi hy2;have HB1:=Hi hb1;have HW1:=Hi hw1;have HX1:=Hi hX1;have HR1:=Hi (hR.below hb1 hR.lt);have HVA:=Hi fun v (hv:Below w1.heap.size w1 v)=>value1 (w0:=w0) hd hc hs v ((hb.trans (hb1.mono hb.size)).trans (hv.mono (hb.trans (hb1.mono hb.size)).size)) ((hR.below hb1 hR.lt).below hv (hR.below hb1 hR.lt).lt) ((hM.upd (X:=fun _=>False) (Upd.of_below hb1 fun _=>False) id).upd (X:=fun _=>False) (Upd.of_below hv fun _=>False) id) 8 a s n A cA B lb cB hP
 have hgl0:=hR.lt;have hng:¬ w.heap.size=g:=V0;obtain ⟨⟨e0,e1,e2,e3,e4,e5⟩,z0,z1,z2,z3,z4,z5⟩:=Blk.c6 hX1;have hgl:=hX1.lt;unfold WoP at HVA;generalize wdB kn y=x2 at HVA ⊢;clear hw1 hb1 hX1 hR hM hP hj hy0 hy1 hy2 hd hc hs hb;go_enter Tryz.func117,Tryz.ntmps117;go_upto_region 1 with fail
 rw [HW1.out];go_wp2_with fail
 have hdr:Below w1.heap.size w1 w1.drew:=Below.drew (Below.refl _ _);obtain ⟨wd,hwd⟩:∃ v,w1.drew=v:=⟨_,rfl⟩;rw [hwd] at hdr;have HXd:=Hi (HX1.out.below hdr HX1.out.lt);have HRd:=Hi (HR1.out.below hdr HR1.out.lt);have HBd:=Hi (HB1.out.trans (hdr.mono HB1.out.size));have HDR:=Hi hdr;clear hdr e0 e1 e2 e3 e4 e5 z0 z1 z2 z3 z4 z5 hgl;have hS0:Below wd.heap.size wd wd:=Below.refl _ _;refine HT.wp_region (Z:=fun w'=>True) (S:=fun w'=>Below wd.heap.size wd w') (st:=[12]) V1 ?_;rw [hwd];clear hwd;refine HT.tm 0 rfl trivial (fun _=>hS0) ?_;refine HT.tm 1 rfl trivial (fun _=>hS0) ?_;refine HT.tm 2 rfl trivial (fun _=>hS0) ?_;refine HT.tm 3 rfl trivial (fun _=>hS0) ?_;refine HT.ts 4 rfl V1s trivial hS0 ?_;refine HT.tm 5 rfl trivial (fun _=>hS0) ?_;refine HT.ts 6 rfl V8 trivial hS0 ?_;refine HT.one (i:=7) V1 rfl (fun K hK=>?_);go_simp;refine (show Calls Tryz.prog 139 #[.pointer (some ⟨g,0,none⟩),nzA 8 a s n A 1 cA B lb cB] wd _ from HVA.out wd HDR.out).mono ?_;rintro e w5 ⟨rfl,hb5⟩;(try dsimp only);refine hK.out _ _ trivial hb5 ?_;clear hK K;(try simp only [HT.pS]);obtain ⟨w6,hw6,hb6,-⟩:=alK w5 #[uV x2] 22;have hL6:Lies w6 (some ⟨w5.heap.size,0,none⟩) [uV x2]:=by rw [<-hw6];exact q0c _ _ [uV x2]
 have hz6:=hb5.trans (hb6.mono hb5.size);refine HT.one (i:=8) V1 rfl (fun K hK=>?_);go_simp;(try rw [hw6]);(try dsimp only);refine hK.out _ _ trivial hz6 ?_;clear hK K;(try simp only [HT.pS]);refine HT.one (i:=9) V1 rfl (fun K hK=>?_);refine q1C rfl (.tmp 50) (.tmp 54) 44 rfl w6.heap.size 22 j0 (.int .u32 0) 1 4 Tryz.underlying44 HJ.out HY0.out HY1.out HY2.out rfl V2 (.slice none 0 0) 0 [] rfl (World.ownsRow_nil _ _ _ _) (some ⟨w5.heap.size,0,none⟩) 1 1 [uV x2] rfl rfl hL6 V02 V2 V2 (Nat.le_refl _) ?_;intro u2 w7 hown hgrow hat;rw [Nat.zero_add,List.nil_append] at hown;obtain ⟨Av,cv,rfl⟩:=q0x hown;have hL7:=q0K hown;have hb7:Below w6.heap.size w6 w7:=(Below.refl _ _).grown hgrow (Nat.le_refl _) (fun k hk=>by cases hk);have hz7:=hz6.trans (hb7.mono hz6.size);(try dsimp only);refine hK.out _ _ trivial hz7 ?_;clear hK K hat hgrow;(try simp only [HT.pS]);refine HT.tm 10 rfl trivial (fun _=>hz7) ?_;refine HT.tm 11 rfl trivial (fun _=>hz7) ?_;have hR7:=HRd.out.below hz7 HRd.out.lt;obtain ⟨⟨r0,r1,r2,r3,r4,r5,r6⟩,q0,q1,q2,q3,q4,q5,q6⟩:=Blk.c7 hR7;have hgl:=hR7.lt;have hu8:Upd (·=g) w7 (w7.setCell ⟨g,6,none⟩ (.slice Av 1 cv)):=(Upd.refl (·=g) w7).setCell (p:=⟨g,6,none⟩) (fun _=>rfl) _;have ho8:=Nm.own_updV hown hu8 fun b hb e=>by have h1:=(Nm.own_atV hown b hb).1;have h2:=HRd.out.lt;have h3:=hz6.size;omega
 have HEND:=Hi (show (∃ A' c',Rn (w7.setCell ⟨g,6,none⟩ (.slice Av 1 cv)) g cst fm mb lo se pu (.slice A' 1 c')/\Lies (w7.setCell ⟨g,6,none⟩ (.slice Av 1 cv)) A' [uV x2])/\Upd (·=g) w (w7.setCell ⟨g,6,none⟩ (.slice Av 1 cv)) from
  ⟨⟨Av,cv,hR7.set 6 _,q0K ho8⟩,(Upd.of_below (HBd.out.trans (hz7.mono HBd.out.size)) _).trans hu8⟩)
 clear hu8 ho8;refine HT.oneS (i:=12) V1 V1 rfl (fun K hK=>?_);go_simp;(try dsimp only);refine hK.out _ _ trivial ?_;clear hK K;(try simp only [HT.pS]);refine HT.done V1 ?_;clear hS0 hb5 hz6 hz7 hb6 hb7;go_wp2_with fail
 first | go_end0 | skip
 all_goals first | exact ⟨rfl,HEND.out⟩ | exact bodyPost_ret (results_none rfl _ _ _) rfl ⟨rfl,HEND.out⟩
theorem stmts2{w0:World}{A:Option Addr}{c:Nat}{y0 y1:Tz}(hP:Pts w0 A c [y0,y1])(g:Nat)(I0 I1 I2:World->Prop)(hI0:∀ {w w':World},I0 w->Below w.heap.size w w'->I0 w')(hI1:∀ {w w':World},I1 w->Below w.heap.size w w'->I1 w')(hB0:∀ w,I0 w->Below w0.heap.size w0 w)(hB1:∀ w,I1 w->Below w0.heap.size w0 w)
  (H0:∀ (v:World) (k a:Int) (s:Bs) (n:Nat) (A:Option Addr) (la cA:Nat) (B:Option Addr) (lb cB:Nat),I0 v->TrV w0 y0 k a s n A la cA B lb cB->Calls Tryz.prog 117 #[.pointer (some ⟨g,0,none⟩),nzA k a s n A la cA B lb cB] v fun e w'=>e = .returned (.tuple #[])/\I1 w')
  (H1:∀ (v:World) (k a:Int) (s:Bs) (n:Nat) (A:Option Addr) (la cA:Nat) (B:Option Addr) (lb cB:Nat),I1 v->TrV w0 y1 k a s n A la cA B lb cB->Calls Tryz.prog 117 #[.pointer (some ⟨g,0,none⟩),nzA k a s n A la cA B lb cB] v fun e w'=>e = .returned (.tuple #[])/\I2 w') (w:World) (hI:I0 w) :
  Calls Tryz.prog 87 #[.pointer (some ⟨g,0,none⟩),.slice A 2 c] w fun e w'=>e = .returned (.tuple #[])/\I2 w':=by
 have HP:=Hi hP;have HH0:=Hi H0;have HH1:=Hi H1;have HI:=Hi hI;have HS0:=Hi (fun (w w':World) (h:I0 w) (hb:Below w.heap.size w w')=>hI0 h hb);have HS1:=Hi (fun (w w':World) (h:I1 w) (hb:Below w.heap.size w w')=>hI1 h hb);have HB0:=Hi hB0;have HB1:=Hi hB1;clear hP H0 H1 hI hI0 hI1 hB0 hB1;go_enter Tryz.func87,Tryz.ntmps87;go_wp2_with fail
 go_loopw [8] (fun vi wr=>∃ i:Nat,i<=2/\vi = .int .i64 (i:Int)/\Hid ((i = 0->I0 wr)/\(i = 1->I1 wr)/\(i = 2->I2 wr))) (fun vi _=>2 - (intOf vi).toNat)
 case atStart=>exact ⟨0,V0,rfl,Hi ⟨fun _=>HI.out,fun h=>absurd h V2,fun h=>absurd h V2⟩⟩
 case round=>
  obtain ⟨i,hi,rfl,HR⟩:=hrel
  match i,hi with
  | 0,_=>
   have hIr:=HR.out.1 rfl;have hb0:=HB0.out wr hIr;obtain ⟨b9,o9,k',a',s',n',A',la',cA',B',lb',cB',hA9,hTy,hbl,g0',g1,g2,g3,g4,g5⟩:=HP.out.at_ hb0 (i:=0) (y:=y0) rfl;subst hA9;obtain ⟨wb,hwb,hbb,hXb,hsb⟩:=q05 wr (nB k' a' s' n' A' la' cA' B' lb' cB');obtain ⟨⟨e0,e1,e2,e3,e4,e5⟩,z0,z1,z2,z3,z4,z5⟩:=Blk.c6 hXb;have hgl:=hXb.lt;have hbl2:b9 < wr.heap.size:=Nat.lt_of_lt_of_le hbl hb0.size;have HC:=Hi (HH0.out wb k' a' s' n' A' la' cA' B' lb' cB' (HS0.out _ _ hIr hbb) hTy);have HWB:=Hi hwb;simp only [Nat.zero_mul,Nat.one_mul,Nat.add_zero] at g0' g1 g2 g3 g4 g5;clear hTy hbl hb0 hwb hbb hXb hsb hIr;go_upto_region 3 with fail
   rw [HWB.out];clear g0' g1 g2 g3 g4 g5;go_wp2_with fail
   refine (show Calls Tryz.prog 117 #[.pointer (some ⟨g,0,none⟩),nzA k' a' s' n' A' la' cA' B' lb' cB'] wb _ from HC.out).mono ?_;rintro e w4 ⟨rfl,hI4⟩;have HI4:=Hi hI4;clear hI4 e0 e1 e2 e3 e4 e5 z0 z1 z2 z3 z4 z5 hgl hbl2;go_wp2_with fail
   go_roundw
   case rel=>exact ⟨1,V0,V7,Hi ⟨fun h=>absurd h V2,fun _=>HI4.out,fun h=>absurd h V2⟩⟩
   case measure=>simp [intOf]
  | 1,_=>
   have hIr:=HR.out.2.1 rfl;have hb0:=HB1.out wr hIr;obtain ⟨b9,o9,k',a',s',n',A',la',cA',B',lb',cB',hA9,hTy,hbl,g0',g1,g2,g3,g4,g5⟩:=HP.out.at_ hb0 (i:=1) (y:=y1) rfl;subst hA9;obtain ⟨wb,hwb,hbb,hXb,hsb⟩:=q05 wr (nB k' a' s' n' A' la' cA' B' lb' cB');obtain ⟨⟨e0,e1,e2,e3,e4,e5⟩,z0,z1,z2,z3,z4,z5⟩:=Blk.c6 hXb;have hgl:=hXb.lt;have hbl2:b9 < wr.heap.size:=Nat.lt_of_lt_of_le hbl hb0.size;have HC:=Hi (HH1.out wb k' a' s' n' A' la' cA' B' lb' cB' (HS1.out _ _ hIr hbb) hTy);have HWB:=Hi hwb;simp only [Nat.zero_mul,Nat.one_mul,Nat.add_zero] at g0' g1 g2 g3 g4 g5;clear hTy hbl hb0 hwb hbb hXb hsb hIr;go_upto_region 3 with fail
   rw [HWB.out];clear g0' g1 g2 g3 g4 g5;go_wp2_with fail
   refine (show Calls Tryz.prog 117 #[.pointer (some ⟨g,0,none⟩),nzA k' a' s' n' A' la' cA' B' lb' cB'] wb _ from HC.out).mono ?_;rintro e w4 ⟨rfl,hI4⟩;have HI4:=Hi hI4;clear hI4 e0 e1 e2 e3 e4 e5 z0 z1 z2 z3 z4 z5 hgl hbl2;go_wp2_with fail
   go_roundw
   case rel=>exact ⟨2,V0,V7,Hi ⟨fun h=>absurd h V2,fun h=>absurd h V2,fun _=>HI4.out⟩⟩
   case measure=>simp [intOf]
  | 2,_=>
   have HI2:=Hi (HR.out.2.2 rfl);go_wp2_with fail
   first | go_end0 | skip
   all_goals first | exact ⟨rfl,HI2.out⟩ | exact bodyPost_ret (results_none rfl _ _ _) rfl ⟨rfl,HI2.out⟩
end Ev
namespace Fl
open Lx Pa Sh Go.Proofs.YtcgibpdjfgjldaaGreatDoor.Nm
section
variable (num : Num) (M : Int) (fu : Fu)
def calR(c:Nat)(kn:Kw)(a:Int)(s:Bs)(l:List Tz)(nd:Int):Rf (Bool×Int):=
 match c with
 | 0=>.bad a 150
 | c+1=>if M < nd then .bad a 150 else bndF (seqB (exC num M fu c kn) l nd) fun q=>calB fu (exC num M fu c) s q
def shR(c:Nat)(kn:Kw)(l:List Tz)(nd:Int):Rf (Bool×Int):=
 match strBs (looB kn) ((l.drop 1).take 1) with
 | some e=>.bad e.2.1 (badB kn e)
 | none=>bndF (seqB (exC num M fu c kn) (l.take 1) nd) fun q=>.ok (q.1.any id,q.2)
end
section
variable {num : Num} {M : Int} {fu : Fu}
theorem q5o(f:Tz->Int->Rf (Bool×Int))(nd:Int):seqB f [] nd = .ok ([],nd):=rfl
theorem q1Z(f:Tz->Int->Rf (Bool×Int))(x:Tz)(l:List Tz)(nd:Int):seqB f (x :: l) nd=bndF (f x nd) fun q=>bndF (seqB f l q.2) fun r=>.ok (q.1 :: r.1,r.2):=rfl
theorem q3t{deep:Bool}{sub:Sub}{kn:Kw}:∀ (l:List Tz) (nd:Int),exTs num M fu deep sub kn l nd=seqB (exT num M fu deep sub kn) l nd
 | [],nd=>by unfold exTs;rfl
 | x :: l,nd=>by
  conv=>lhs;unfold exTs
  rw [q1Z]
  congr 1
  funext q
  rw [q3t l q.2]
theorem q1a{α β γ:Type}(r:Rf α)(f:α->Rf β)(g:β->Rf γ):bndF (bndF r f) g=bndF r fun x=>bndF (f x) g:=by
 cases r <;> rfl
theorem q4L(f:Tz->Int->Rf (Bool×Int))(x:Tz)(nd:Int):bndF (seqB f [x] nd) (fun q=>.ok (q.1.any id,q.2))=f x nd:=by
 rw [q1Z,q1a];cases f x nd with
 | bad a e=>rfl
 | ok q=>
  show Rf.ok (([q.1]:List Bool).any id,q.2)=_;simp
theorem q8A{deep:Bool}{sub:Sub}{kn:Kw}(l:List Tz)(nd:Int):exS num M fu deep sub kn l nd=match strBs (looB kn) ((l.drop 1).take 1) with
 | some e=>.bad e.2.1 (badB kn e)
 | none=>bndF (seqB (exT num M fu deep sub kn) (l.take 1) nd) fun q=>.ok (q.1.any id,q.2):=by
 match l with
 | []=>unfold exS;rfl
 | [x]=>
  unfold exS;show exT num M fu deep sub kn x nd=bndF (seqB (exT num M fu deep sub kn) [x] nd) fun q=>.ok (q.1.any id,q.2)
  rw [q4L]
 | x :: y :: l=>
  unfold exS;show bndF (nuB num kn y) (fun _=>exT num M fu deep sub kn x nd)=match strBs (looB kn) [y] with
   | some e=>.bad e.2.1 (badB kn e)
   | none=>bndF (seqB (exT num M fu deep sub kn) [x] nd) fun q=>.ok (q.1.any id,q.2)
  rw [q4L];unfold nuB;have e:strBs (looB kn) [y]=strB (looB kn) y:=by
   unfold strBs;cases strB (looB kn) y with
   | some e=>rfl
   | none=>unfold strBs;rfl
  rw [e];cases strB (looB kn) y <;> rfl
theorem exC_0:exC num M fu 0=exT num M fu true fun _ _ nd=>.ok (false,nd):=by unfold exC;rfl
theorem exC_s(c:Nat):exC num M fu (c+1)=exT num M fu false (exC num M fu c):=by conv=>lhs;unfold exC
theorem exC_mk(c:Nat)(kn:Kw)(k a:Int)(s:Bs)(n:Nat)(ps:List Bs)(l:List Tz)(nd:Int):exC num M fu c kn (.mk k a s n ps l) nd =
  if k = 5 then calR num M fu c kn a s l (nx nd) else if k = 4 then shR num M fu c kn l (nx nd)
  else bndF (seqB (exC num M fu c kn) l (nx nd)) fun q=>.ok (if k = 1 then secB kn s else if k = 2\/k = 3 then q.1.any id else false,q.2):=by
 unfold shR calR;cases c with
 | zero=>
  rw [exC_0]
  conv=>lhs;unfold exT
  rw [q8A,q3t];simp only [or_true,if_true]
 | succ c=>
  rw [exC_s]
  conv=>lhs;unfold exT
  rw [q8A,q3t];simp only [Bool.false_eq_true,or_false]
theorem q5p:∀ (ps:List Bs) (bs:List Bool),parB ps bs=parB (ps.take bs.length) bs
 | [],bs=>V3
 | p :: ps,[]=>by simp [parB]
 | p :: ps,b :: bs=>by
  rw [List.length_cons,List.take_succ_cons];unfold parB;rw [q5p ps bs]
theorem q5q:∀ (ps:List Bs) (bs:List Bool) (p:Bs) (b:Bool),ps.length=bs.length->parB (ps ++ [p]) (bs ++ [b])=(parB ps bs).put p ⟨b,none⟩
 | [],[],p,b,_=>by
  funext t
  show (match (parB [] [] t:Option Wk) with | some m=>some m | none=>if t=p then some ⟨b,none⟩ else none)=if t=p then some ⟨b,none⟩ else parB [] [] t
  unfold parB;rfl
 | q :: ps,c :: bs,p,b,h=>by
  funext t
  have ih:=congrFun (q5q ps bs p b Vf) t;show (match parB (ps ++ [p]) (bs ++ [b]) t with | some m=>some m | none=>if t=q then some ⟨c,none⟩ else none)=if t=p then some ⟨b,none⟩ else parB (q :: ps) (c :: bs) t
  rw [ih];unfold Kw.put;by_cases e:t=p
  ·rw [if_pos e,if_pos e]
  ·rw [if_neg e,if_neg e];rfl
 | [],_ :: _,_,_,h=>Ve
 | _ :: _,[],_,_,h=>Ve
end
end Fl
namespace Fl
open Go Go.ChangeShapes Go.WideShapes Go.ChangeAt Go.RowKit Lx Args Pa Sh Go.Proofs.YtcgibpdjfgjldaaGreatDoor.Nm
section
def MuP(w:World)(kn:Kw)(o:Option (Int×Int×Bs))(e:Ending)(w':World):Prop:=
 match o with
 | none=>e = .returned (.tuple #[])/\Below w.heap.size w w'
 | some x=>e=panF x.2.1 (badB kn x)/\Below w.heap.size w w'
theorem fFa0(a b:Bool)(n:Int)(w:World):(Instr.field 180 (.agg #[.bool a,.bool b,.int .u32 n]) 0).run Tryz.prog w = .ok (.bool a) w:=V1
attribute [local go_sem] fFa0
theorem mustBe{w0:World}{b q:Nat}{kn:Kw}(w:World)(z:Tz)(k a:Int)(s:Bs)(n:Nat)(A:Option Addr)(la cA:Nat)(B:Option Addr)(lb cB:Nat)(hb:Below w0.heap.size w0 w)(hM:MpW w b q kn)(hT:TrV w0 z k a s n A la cA B lb cB) :
  Calls Tryz.prog 148 #[nzA k a s n A la cA B lb cB,.map (some b)] w (MuP w kn (strB (looB kn) z)):=by
 obtain ⟨w1,hw1,hb1,hX1,hs1⟩:=q05 w (nB k a s n A la cA B lb cB);have hM1:=hM.upd (Upd.of_below hb1 fun _=>False) id;have HC:=Hi (stray (w0:=w0) (b:=b) (q:=q) (kn:=kn) (SizeOf.sizeOf z+1) z (Nat.lt_succ_self _) w1 k a s n A la cA B lb cB (hb.trans (hb1.mono hb.size)) hM1 hT);have HB1:=Hi hb1;have HW1:=Hi hw1;have HM1:=Hi hM1;have hmf:∀ (fn:Fn) (first cap:Array Value) (w:World),(Instr.makeFunc fn first cap).run Tryz.prog w = .ok (.func fn first cap) w:=fun _ _ _ _=>rfl
 obtain ⟨⟨e0,e1,e2,e3,e4,e5⟩,z0,z1,z2,z3,z4,z5⟩:=Blk.c6 hX1;obtain ⟨res,hres⟩:∃ res,strB (looB kn) z=res:=⟨_,rfl⟩;rw [hres] at HC ⊢;clear hb hM hT hw1 hb1 hX1 hs1 hM1 hres;go_enter Tryz.func148,Tryz.ntmps148;go_wp2_with fail
 rw [HW1.out];refine (show Calls Tryz.prog 72 #[nzA k a s n A la cA B lb cB,nuV b] w1 _ from HC.out).mono ?_;intro e w2 h2;clear e0 e1 e2 e3 e4 e5 z0 z1 z2 z3 z4 z5;cases res with
 | none=>
  obtain ⟨rfl,hb2⟩:=h2;obtain ⟨w3,hw3,hb3,hX3,hs3⟩:=q05 w2 #[.int .i64 0,.string ⟨#[]⟩,.int .u32 0,.int .i64 0,.slice none 0 0,.slice none 0 0];have HB3:=Hi (HB1.out.trans ((hb2.trans (hb3.mono hb2.size)).mono HB1.out.size));have HW3:=Hi hw3;clear hb2 hw3 hb3 hX3 hs3;go_upto_region 2 with fail
  rw [HW3.out];go_wp2_with fail
  first | go_end0 | skip
  all_goals first | exact ⟨rfl,HB3.out⟩ | exact bodyPost_ret (results_none rfl _ _ _) rfl ⟨rfl,HB3.out⟩
 | some x=>
  obtain ⟨k2,a2,s2⟩:=x;obtain ⟨hs2,⟨n2,A2,la2,cA2,B2,lb2,cB2,rfl⟩,hb2⟩:=h2;obtain ⟨w3,hw3,hb3,hX3,hs3⟩:=q05 w2 (nB k2 a2 s2 n2 A2 la2 cA2 B2 lb2 cB2);have hb13:=hb2.trans (hb3.mono hb2.size);have HB3:=Hi (HB1.out.trans (hb13.mono HB1.out.size));have HW3:=Hi hw3;have hrun:=q2D (HM1.out.upd (Upd.of_below hb13 fun _=>False) id) hs2;unfold wkV at hrun;rw [q3l] at hrun;obtain ⟨⟨e0,e1,e2,e3,e4,e5⟩,z0,z1,z2,z3,z4,z5⟩:=Blk.c6 hX3;obtain ⟨er,her⟩:∃ er,badB kn (k2,a2,s2)=er:=⟨_,rfl⟩;have hbad:(if k2 = 1/\secB kn s2=true then 130 else 120)=er:=her;have HER:=Hi her;have HBAD:=Hi hbad;clear hb2 hw3 hb3 hX3 hs3 hb13 her hbad;generalize (wkAt kn s2).loo.isSome=l1 at hrun;generalize loN (wkAt kn s2).loo=l2 at hrun;generalize secB kn s2=sc at hrun HBAD;by_cases hk1:k2 = 1
  ·subst hk1;cases sc with
   | true=>
    have HE2:=Hi (show 130=er from HBAD.out);go_upto_region 2 with fail
    rw [HW3.out];go_wp2_with fail
    exact ⟨rfl,by show panF a2 130=panF a2 (badB kn (1,a2,s2));rw [HER.out,HE2.out],HB3.out⟩
   | false=>
    have HE2:=Hi (show 120=er from HBAD.out);go_upto_region 2 with fail
    rw [HW3.out];go_wp2_with fail
    exact ⟨rfl,by show panF a2 120=panF a2 (badB kn (1,a2,s2));rw [HER.out,HE2.out],HB3.out⟩
  ·have hi:(k2==1)=false:=by simpa using hk1
   have HE2:=Hi (show 120=er by rw [<-HBAD.out,if_neg (fun h=>hk1 h.1)]);clear hk1 hrun;go_upto_region 2 with fail
   rw [HW3.out];go_wp2_with fail
   exact ⟨rfl,by show panF a2 120=panF a2 (badB kn (k2,a2,s2));rw [HER.out,HE2.out],HB3.out⟩
end
end Fl
end Go.Proofs.YtcgibpdjfgjldaaGreatDoor
