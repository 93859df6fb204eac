/- DERIVED. PaLo. By an AI agent. -/
import Derived.Test.YtdhoemlomojfaaaGreatDoorW01
import Derived.Test.YtdhoemlomojfaaaGreatDoorW33
set_option maxRecDepth 100000
set_option maxHeartbeats 8000000
set_option linter.unusedVariables false
set_option linter.unusedSimpArgs false
namespace Go.Proofs.YtdhoemlomojfaaaGreatDoor.Pa
open Go Go.ChangeShapes Go.WideShapes Go.ChangeAt Go.RowKit Lx Args
section
attribute [local go_sem] fTk0 fTk1 fTk2
section
variable {num : Bs → Nat × Nat} {a d : Nat} {t u v v2 : Tk} {r r4 r5 r6 r7 : List Tk} {x y : Tr} {zs : List Tr}
theorem fo1(h1:t.k≠1):Ev (fun f=>ForK num f a d (t :: r)) (.bad t.at_ 100):=ev_eq (ev_now _) fun _=>name_n h1 _
theorem fo2(h1:t.k = 1)(h2:isS [105,110] u=false):Ev (fun f=>ForK num f a d (t :: u :: r)) (.bad u.at_ 100):=ev_eq (ev_now _) fun _=>(name_y h1 _).trans (must_n h2 _)
def Fo2(num:Bs→Nat×Nat)(f a d:Nat)(s:Bs)(r2:List Tk):OO:=bnd (pF num f (.lev 0) d r2) fun xs r3=>must [46,46] r3 fun r4=>bnd (pF num f (.lev 0) d r4) fun ys r5=>must [123] r5 fun r6=>bnd (pF num f (.inners (xs ++ ys)) d r6) fun zs r7=>some (.ok [.mk 11 a s 0 [] zs] r7)
def Fo3(num:Bs→Nat×Nat)(f a d:Nat)(s:Bs)(xs:List Tr)(r3:List Tk):OO:=must [46,46] r3 fun r4=>bnd (pF num f (.lev 0) d r4) fun ys r5=>must [123] r5 fun r6=>bnd (pF num f (.inners (xs ++ ys)) d r6) fun zs r7=>some (.ok [.mk 11 a s 0 [] zs] r7)
def Fo4(num:Bs→Nat×Nat)(f a d:Nat)(s:Bs)(xs ys:List Tr)(r5:List Tk):OO:=must [123] r5 fun r6=>bnd (pF num f (.inners (xs ++ ys)) d r6) fun zs r7=>some (.ok [.mk 11 a s 0 [] zs] r7)
theorem fo_2{o:Out}(h1:t.k = 1)(h2:isS [105,110] u=true)(h:Ev (fun f=>Fo2 num f a d t.s r) o):Ev (fun f=>ForK num f a d (t :: u :: r)) o:=ev_eq h fun _=>(name_y h1 _).trans (must_y h2 _)
theorem fo3{p e:Nat}{s:Bs}(h:Rd num (.lev 0) d r (.bad p e)):Ev (fun f=>Fo2 num f a d s r) (.bad p e):=ev_bad (K:=fun f xs r3=>Fo3 num f a d s xs r3) h
theorem fo_3{o:Out}{s:Bs}{xs:List Tr}(h:Rd num (.lev 0) d r (.ok xs r4))(h2:Ev (fun f=>Fo3 num f a d s xs r4) o):Ev (fun f=>Fo2 num f a d s r) o:=ev_bnd (K:=fun f xs r3=>Fo3 num f a d s xs r3) h h2
theorem fo4{s:Bs}{xs:List Tr}(h:isS [46,46] v=false):Ev (fun f=>Fo3 num f a d s xs (v :: r)) (.bad v.at_ 100):=ev_eq (ev_now _) fun _=>must_n h _
theorem fo5{s:Bs}{xs:List Tr}{p e:Nat}(h:isS [46,46] v=true)(h2:Rd num (.lev 0) d r (.bad p e)):Ev (fun f=>Fo3 num f a d s xs (v :: r)) (.bad p e):=
 ev_eq (ev_bad (K:=fun f ys r5=>Fo4 num f a d s xs ys r5) h2) fun _=>must_y h _
theorem fo_4{s:Bs}{xs ys:List Tr}{o:Out}(h:isS [46,46] v=true)(h2:Rd num (.lev 0) d r (.ok ys r5))(h3:Ev (fun f=>Fo4 num f a d s xs ys r5) o):Ev (fun f=>Fo3 num f a d s xs (v :: r)) o:=
 ev_eq (ev_bnd (K:=fun f ys r5=>Fo4 num f a d s xs ys r5) h2 h3) fun _=>must_y h _
theorem fo6{s:Bs}{xs ys:List Tr}(h:isS [123] v=false):Ev (fun f=>Fo4 num f a d s xs ys (v :: r)) (.bad v.at_ 100):=ev_eq (ev_now _) fun _=>must_n h _
theorem fo7{s:Bs}{xs ys:List Tr}{p e:Nat}(h:isS [123] v=true)(h2:Rd num (.inners (xs ++ ys)) d r (.bad p e)):Ev (fun f=>Fo4 num f a d s xs ys (v :: r)) (.bad p e):=
 ev_eq (ev_bad (K:=fun _ zs r7=>some (.ok [.mk 11 a s 0 [] zs] r7)) h2) fun _=>must_y h _
theorem fo8{s:Bs}{xs ys:List Tr}(h:isS [123] v=true)(h2:Rd num (.inners (xs ++ ys)) d r (.ok zs r7)):Ev (fun f=>Fo4 num f a d s xs ys (v :: r)) (.ok [.mk 11 a s 0 [] zs] r7):=
 ev_eq (ev_bnd (K:=fun _ zs r7=>some (.ok [.mk 11 a s 0 [] zs] r7)) h2 (ev_now _)) fun _=>must_y h _
end
def InC(n:Nat):Prop:=∀ (w:World) (bp d:Nat) (l:List Tk),l.length≤n→d≤60→PS w bp l d→Gt l →
 Calls Tryz.prog 88 #[.pointer (some ⟨bp,0,none⟩)] w (OutP w bp d l (Rd numV .inner d l))
theorem within_i{n:Nat}(H:InC n)(w:World)(bp d:Nat)(l:List Tk)(hn:l.length≤n)(hd:d≤60)(hp:PS w bp l d)(hg:Gt l) :
  Calls Tryz.prog 136 #[.pointer (some ⟨bp,0,none⟩),.func (.func 88) #[.pointer (some ⟨bp,0,none⟩)] #[]] w (OutP w bp d l (Rd numV .inner (d+1) l)):=by
 rcases Nat.lt_or_ge d 60 with h | h
 ·exact within_inner _ w bp d l h hp fun w0 hp0=>H w0 bp (d+1) l hn (by omega) hp0 hg
 ·obtain rfl:d = 60:=by omega
  obtain ⟨t,r,rfl⟩:=hg.cons;exact (within_deep _ w bp t r hp).mono fun e w' h=>.inr ⟨_,_,h.1,r_deepI (by omega),h.2⟩
structure FoI(w:World)(bp d n:Nat)(x y:Tr)(r6:List Tk)(zs:List Tr)(l:List Tk)(g c:Nat)(W:World):Prop where
 rd:∀ o,Rd numV (.inners zs) d l o→Rd numV (.inners [x,y]) d r6 o
 ps:PS W bp l d
 gt:Gt l
 lt:l.length≤n
 arr:ArrT 62 (w.heap.size+1) W g c zs
 few:zs.length+l.length≤4000
 ub:UB bp w W
 res:Blk W w.heap.size 62 #[.int .i64 0,.string ⟨#[]⟩,.int .u32 0,.int .i64 0,.slice none 0 0,.slice none 0 0]
theorem loop{n:Nat}(H:InC n)(w:World)(bp d:Nat)(q:Tk)(l:List Tk)(hn:l.length≤n)(hd:d≤60)(hp:PS w bp (q :: l) d)(hg:Gt (q :: l))(hq:isS [102,111,114] q=true) :
  Calls Tryz.prog 111 #[.pointer (some ⟨bp,0,none⟩)] w (OutP w bp d (q :: l) (fun o=>Ev (fun f=>ForK numV f q.at_ d l) o)):=by
 have hlt:=hp.lt;have hfw:=hg.few;simp only [List.length_cons] at hfw;obtain ⟨i0,hi,hz⟩:=Option.map_eq_some_iff.1 infoNd;have hz0:=congrArg (·.1) hz;have hz1:=congrArg (·.2.1) hz;have hz2:=congrArg (·.2.2) hz;have HI:=Hi hi;have HZ0:=Hi hz0;have HZ1:=Hi hz1;have HZ2:=Hi hz2;clear hi hz hz0 hz1 hz2;obtain ⟨w0,hw0⟩:∃ w0,w.alloc (.cells #[.int .i64 0,.string ⟨#[]⟩,.int .u32 0,.int .i64 0,.slice none 0 0,.slice none 0 0] 62)=w0:=⟨_,rfl⟩;have hb0:Below w.heap.size w w0:=by rw [←hw0];exact (Below.refl _ _).alloc (Nat.le_refl _) _
 have hB:Blk w0 w.heap.size 62 #[.int .i64 0,.string ⟨#[]⟩,.int .u32 0,.int .i64 0,.slice none 0 0,.slice none 0 0]:=by rw [←hw0];exact Blk.new _ _ _
 have HM0:=Hi (must_ w0 bp d q l [102,111,114] (hp.below hb0) hg (by decide));have HU0:=Hi (below_UB (bp:=bp) hb0);have HB:=Hi hB;have HW:=Hi hw0;have hlb:=hB.lt;clear hb0 hp hw0 hB hg;go_enter Tryz.func111,Tryz.ntmps111;go_wp2_with fail
 rw [HW.out];refine HM0.out.mono ?_;rintro e wa (⟨hq',rfl,hpa,hga,hua⟩ | ⟨hq',rfl,hua⟩);rotate_left
 ·rw [hq] at hq';cases hq'
 obtain ⟨t,r,rfl⟩:=hga.cons;have HN:=Hi (name_ wa bp d t r hpa hga);have HUa:=Hi (HU0.out.trans hua);have HXa:=Hi (HB.out.upd hua (by omega));have h0a:=hua.size;clear hpa hga hua hq';go_wp2_with fail
 refine HN.out.mono ?_;rintro e w1 (⟨hk,rfl,hp1,hg1,hu1⟩ | ⟨hk,rfl,hu1⟩);rotate_left
 ·have HU1:=Hi (HUa.out.trans hu1);clear hu1;go_wp2_with fail
  exact ⟨rfl,.inr ⟨_,_,rfl,fo1 hk,HU1.out⟩⟩
 obtain ⟨u,r1,rfl⟩:=hg1.cons;have HM:=Hi (must_ w1 bp d u r1 [105,110] hp1 hg1 (by decide));have HU1:=Hi (HUa.out.trans hu1);have HX1:=Hi (HXa.out.upd hu1 (by omega));have h01:=hu1.size;clear hp1 hg1 hu1;go_wp2_with fail
 refine HM.out.mono ?_;rintro e w2 (⟨hu,rfl,hp2,hg2,hu2⟩ | ⟨hu,rfl,hu2⟩);rotate_left
 ·have HU2:=Hi (HU1.out.trans hu2);clear hu2;go_wp2_with fail
  exact ⟨rfl,.inr ⟨_,_,rfl,fo2 hk hu,HU2.out⟩⟩
 have HE2:=Hi (ex r1.length w2 bp d r1 (Nat.le_refl _) hd hp2 hg2);have HU2:=Hi (HU1.out.trans hu2);have HX2:=Hi (HX1.out.upd hu2 (by omega));have h12:=hu2.size;clear hp2 hg2 hu2;go_wp2_with fail
 refine HE2.out.mono ?_;rintro e w3 (⟨kx,ax,sx,nx,A,la,cA,B,lb,cB,x,r3,rfl,hT,hR,hP,hG,hr3,hU⟩ | ⟨a1,er,rfl,hR,hU⟩);rotate_left
 ·have HR:=Hi (fo_2 (a:=q.at_) hk hu (fo3 hR));have HU3:=Hi (HU2.out.trans hU);clear hR hU;go_wp2_with fail
  exact ⟨rfl,.inr ⟨_,_,rfl,HR.out,HU3.out⟩⟩
 obtain ⟨v,r4,rfl⟩:=hG.cons;have h23:=hU.size;obtain ⟨w4,hw4⟩:∃ w4,w3.alloc (.cells #[.int .i64 (kx:Int),.string ⟨sx.toArray⟩,.int .u32 (nx:Int),.int .i64 (ax:Int),.slice A la cA,.slice B lb cB] 62)=w4:=⟨_,rfl⟩;have hb4:Below w3.heap.size w3 w4:=by rw [←hw4];exact (Below.refl _ _).alloc (Nat.le_refl _) _
 have hA4:ArrT 62 (w.heap.size+1) w4 w3.heap.size 1 [x]:=by rw [←hw4];exact ArrT.first (hT.up (by omega)) (by omega)
 have HM4:=Hi (must_ w4 bp d v r4 [46,46] (hP.below hb4) hG (by decide));have hx3:=(HX2.out.upd hU (show ¬ w.heap.size=bp by omega)).lt;have HX4:=Hi ((HX2.out.upd hU (by omega)).below hb4 hx3);have HU4:=Hi ((HU2.out.trans hU).trans (below_UB hb4));have HA4:=Hi hA4;have HR3:=Hi hR;have HW4:=Hi hw4;have h34:=hb4.size;simp only [List.length_cons] at hr3;clear hT hR hP hG hU hA4 hw4 hb4;go_wp2_with fail
 rw [HW4.out];refine HM4.out.mono ?_;rintro e w5 (⟨hv,rfl,hp5,hg5,hu5⟩ | ⟨hv,rfl,hu5⟩);rotate_left
 ·have HR:=Hi (fo_2 (a:=q.at_) hk hu (fo_3 HR3.out (fo4 hv)));have HU5:=Hi (HU4.out.trans hu5);clear hu5;go_wp2_with fail
  exact ⟨rfl,.inr ⟨_,_,rfl,HR.out,HU5.out⟩⟩
 have HE5:=Hi (ex r4.length w5 bp d r4 (Nat.le_refl _) hd hp5 hg5);have HU5:=Hi (HU4.out.trans hu5);have HX5:=Hi (HX4.out.upd hu5 (by omega));have HA5:=Hi (HA4.out.upd hu5 fun b hb=>by omega);have h45:=hu5.size;clear hp5 hg5 hu5;go_wp2_with fail
 refine HE5.out.mono ?_;rintro e w6 (⟨ky,ay,sy,ny,A',la',cA',B',lb',cB',y,r5,rfl,hT,hR,hP,hG,hr5,hU⟩ | ⟨a1,er,rfl,hR,hU⟩);rotate_left
 ·have HR:=Hi (fo_2 (a:=q.at_) hk hu (fo_3 HR3.out (fo5 hv hR)));have HU6:=Hi (HU5.out.trans hU);clear hR hU;go_wp2_with fail
  exact ⟨rfl,.inr ⟨_,_,rfl,HR.out,HU6.out⟩⟩
 obtain ⟨z,r6,rfl⟩:=hG.cons;obtain ⟨css,how,hts⟩:=HA5.out;have h56:=hU.size;have HOA:=Hi (World.ownsRow.alloc (own_upd3 how hU (by have:=(own_at how).1;omega)) (.cells #[.int .i64 (ky:Int),.string ⟨sy.toArray⟩,.int .u32 (ny:Int),.int .i64 (ay:Int),.slice A' la' cA',.slice B' lb' cB'] 62));have HLI:=Hi (lies_full w6 62 (ndC ky ay sy ny A' la' cA' B' lb' cB'));have HBS:=Hi (show w.heap.size+1≤(w6.alloc (.cells #[.int .i64 (ky:Int),.string ⟨sy.toArray⟩,.int .u32 (ny:Int),.int .i64 (ay:Int),.slice A' la' cA',.slice B' lb' cB'] 62)).heap.size by simp;omega);have HOW:=Hi how;have HTS:=Hi hts;have HU56:=Hi hU;have HT6:=Hi hT;have HR6:=Hi hR;have HP6:=Hi hP;have HG6:=Hi hG;have HX6:=Hi (HX5.out.upd hU (by omega));have HU6:=Hi (HU5.out.trans hU);simp only [List.length_cons] at hr5;clear how hts hT hR hP hG hU;go_wp2_with (at_builtin;refine wpList_where rfl _ _ 59 rfl (w.heap.size+1) 62 i0 (.agg #[.int .i64 0,.string ⟨#[]⟩,.int .u32 0,.int .i64 0,.slice none 0 0,.slice none 0 0]) 6 88 Tryz.underlying59 HI.out HZ0.out HZ1.out HZ2.out rfl (by decide) _ 1 _ rfl HOA.out ⟨w6.heap.size,0,none⟩ 1 1 (ndC ky ay sy ny A' la' cA' B' lb' cB') rfl rfl HLI.out (by simp [ndC,Value.oneCell']) (by decide) (by decide) HBS.out (by decide) ?_;intro g8 c8 w8 hE;have HE8:=Hi hE;clear hE)
 have HST:=Hi (arr_step (xs:=[x]) HOW.out HTS.out (by omega) HU56.out HT6.out HE8.out);have hx6:=HX6.out.lt;have HM8:=Hi (must_ w8 bp d z r6 [123] (HP6.out.far HST.out.2.2 fun b hb=>by omega) HG6.out (by decide));have HX8:=Hi (HX6.out.upd HST.out.2.2 (by omega));have HU8:=Hi (HST.out.2.1 w (by omega) HU5.out);have HA8:=Hi (show ArrT 62 (w.heap.size+1) w8 g8 c8 [x,y] from HST.out.1);clear HM HN HM0 HE2 HE5 HM4 HXa HUa HX1 HU1 HX2 HU2 HX4 HU4 HA4 HX5 HU5 HA5 HOA HLI HBS HOW HTS HU56 HT6 HP6 HX6 HU6 HE8 HST HW4;go_wp2_with fail
 refine HM8.out.mono ?_;rintro e w9 (⟨hz,rfl,hp9,hg9,hu9⟩ | ⟨hz,rfl,hu9⟩);rotate_left
 ·have HR:=Hi (fo_2 (a:=q.at_) hk hu (fo_3 HR3.out (fo_4 hv HR6.out (fo6 hz))));have HU9:=Hi (HU8.out.trans hu9);clear hu9;go_wp2_with fail
  exact ⟨rfl,.inr ⟨_,_,rfl,HR.out,HU9.out⟩⟩
 have HJ:Hid (FoI w bp d n x y r6 [x,y] r6 g8 c8 w9):=Hi ⟨fun o h=>h,hp9,hg9,by simp only [List.length_cons] at hn;omega,HA8.out.upd hu9 (fun b hb=>by omega),by simp only [List.length_cons] at hfw ⊢;simp only [List.length_nil];omega,HU8.out.trans hu9,HX8.out.upd hu9 (by omega)⟩;have HALL:=Hi (show ∀ o,Ev (fun f=>Fo4 numV f q.at_ d t.s [x] [y] (z :: r6)) o→Ev (fun f=>ForK numV f q.at_ d (t :: u :: r1)) o from fun o h=>fo_2 hk hu (fo_3 HR3.out (fo_4 hv HR6.out h)));have hln:r6.length < (q :: t :: u :: r1).length:=by simp;omega
 clear hp9 hg9 hu9 HM8 HX8 HU8 HA8 HR3 HR6;go_wp2_with fail
 go_loopw [5] (fun vl wr=>∃ zs l' g c,vl = .slice (some ⟨g,0,none⟩) zs.length c∧Hid (l'.length≤r6.length∧FoI w bp d n x y r6 zs l' g c wr)) (fun _ wr=>lenAt wr bp)
 case atStart=>exact ⟨[x,y],r6,_,_,rfl,Hi ⟨Nat.le_refl _,HJ.out⟩⟩
 case round=>
  clear HJ;obtain ⟨zs,l',g,c,rfl,HH0⟩:=hrel;have hl6:=HH0.out.1;have HH:=Hi HH0.out.2;clear HH0;obtain ⟨t',r',rfl⟩:=HH.out.gt.cons;have his:=is_ wr bp d t' r' [125] HH.out.ps;by_cases hc:(t'.s==[125])=true
  ·rw [hc] at his;have HIS:=Hi his;have hon:isS [125] t'=true:=by rw [isS_eq HH.out.gt.hd (by decide)];exact hc
   have HM:=Hi fun (w':World) (hb:Below wr.heap.size wr w')=>must_ w' bp d t' r' [125] (HH.out.ps.below hb) HH.out.gt (by decide)
   clear his hc;go_wp2_with fail
   refine HIS.out.mono ?_;rintro e w10 ⟨rfl,hb10⟩;have HM10:=Hi (HM.out w10 hb10);have HB10:=Hi hb10;clear hb10 HM HIS;go_wp2_with fail
   refine HM10.out.mono ?_;rintro e w11 (⟨hz',rfl,hp11,hg11,hu11⟩ | ⟨hz',rfl,hu11⟩);rotate_left
   ·rw [hon] at hz';cases hz'
   have hu11':UB bp wr w11:=(below_UB HB10.out).trans hu11;have HNO:=Hi (show Calls Tryz.prog 72 #[.int .i64 11,.string ⟨t.s.toArray⟩,.int .i64 (q.at_:Int),.slice (some ⟨g,0,none⟩) zs.length c] w11 _ from node w11 11 q.at_ t.s (some ⟨g,0,none⟩) zs.length c);have HP11:=Hi hp11;have HG11:=Hi hg11;have HU11:=Hi hu11';have HA11:=Hi (HH.out.arr.upd hu11' fun b hb=>by omega);have HX11:=Hi (HH.out.res.upd hu11' (by omega));clear hp11 hg11 hu11 hu11' HM10;go_wp2_with fail
   refine HNO.out.mono ?_;rintro e w12 ⟨rfl,hb12⟩;have hX:=HX11.out.below hb12 HX11.out.lt;obtain ⟨⟨e0,e1,e2,e3,e4,e5⟩,z0,z1,z2,z3,z4,z5⟩:=Blk.c6 hX;have HX12:=Hi hX;have HB12:=Hi hb12;clear hX hb12;have hfz:=HH.out.few;simp only [List.length_cons] at hl6;have HT12:=Hi (TIn.far (HA11.out.node (by omega) 11 q.at_ 0 t.s) (Upd.of_below HB12.out fun _=>False) (fun _ h=>h.elim));go_wp2_with fail
   exact bodyPost_ret (resNd rfl rfl (Blk.put6 HX12.out _ _ _ _ _ _) rfl) rfl (out_ok hlt (Nat.lt_succ_self _) HT12.out (HALL.out _ (fo8 hz (HH.out.rd _ (r_inners_end hon)))) (HP11.out.below HB12.out) HG11.out (by omega) ((HH.out.ub.trans HU11.out).trans (below_UB HB12.out)))
  ·have hc':(t'.s==[125])=false:=by simpa using hc
   rw [hc'] at his;have HIS:=Hi his;have hon:isS [125] t'=false:=by rw [isS_eq HH.out.gt.hd (by decide)];exact hc'
   have HWI:=Hi fun (w':World) (hb:Below wr.heap.size wr w')=>within_i H w' bp d (t' :: r') HH.out.lt hd (HH.out.ps.below hb) HH.out.gt
   clear his hc hc';go_wp2_with fail
   refine HIS.out.mono ?_;rintro e w10 ⟨rfl,hb10⟩;have HW10:=Hi (HWI.out w10 hb10);have HB10:=Hi hb10;clear hb10 HWI HIS;go_wp2_with fail
   refine HW10.out.mono ?_;rintro e w11 (⟨k',a',s',m',A2,la2,cA2,B2,lb2,cB2,x',r11,rfl,hT,hR,hP,hG,hr,hU⟩ | ⟨a',er,rfl,hR,hU⟩);rotate_left
   ·have HR:=Hi (HALL.out _ (fo7 hz (HH.out.rd _ (r_inners_bad hon hR))));have HU11:=Hi ((HH.out.ub.trans (below_UB HB10.out)).trans hU);clear hR hU;go_wp2_with fail
    exact ⟨rfl,.inr ⟨_,_,rfl,HR.out,HU11.out⟩⟩
   obtain ⟨css,how,hts⟩:=HH.out.arr;have hu11:UB bp wr w11:=(below_UB HB10.out).trans hU;have hT11:TIn (fun b=>wr.heap.size≤b) w11 x' (ndC k' a' s' m' A2 la2 cA2 B2 lb2 cB2):=hT.up HB10.out.size;have HOA:=Hi (World.ownsRow.alloc (own_upd3 how hu11 (by have:=(own_at how).1;omega)) (.cells #[.int .i64 (k':Int),.string ⟨s'.toArray⟩,.int .u32 (m':Int),.int .i64 (a':Int),.slice A2 la2 cA2,.slice B2 lb2 cB2] 62));have HLI:=Hi (lies_full w11 62 (ndC k' a' s' m' A2 la2 cA2 B2 lb2 cB2));have hsz:w.heap.size+1≤w11.heap.size:=by have:=HH.out.res.lt;have:=hu11.size;omega
   have HBS:=Hi (show w.heap.size+1≤(w11.alloc (.cells #[.int .i64 (k':Int),.string ⟨s'.toArray⟩,.int .u32 (m':Int),.int .i64 (a':Int),.slice A2 la2 cA2,.slice B2 lb2 cB2] 62)).heap.size by simp;omega);have hfew:=HH.out.few;simp only [List.length_cons] at hfew hl6 hr;have HOW:=Hi how;have HTS:=Hi hts;have HU11:=Hi hu11;have HT11:=Hi hT11;have HR11:=Hi hR;have HP11:=Hi hP;have HG11:=Hi hG;clear how hts hu11 hT11 hT hR hP hG hU hsz;go_wp2_with (at_builtin;refine wpList_where rfl _ _ 59 rfl (w.heap.size+1) 62 i0 (.agg #[.int .i64 0,.string ⟨#[]⟩,.int .u32 0,.int .i64 0,.slice none 0 0,.slice none 0 0]) 6 88 Tryz.underlying59 HI.out HZ0.out HZ1.out HZ2.out rfl (by decide) _ zs.length _ rfl HOA.out ⟨w11.heap.size,0,none⟩ 1 1 (ndC k' a' s' m' A2 la2 cA2 B2 lb2 cB2) rfl rfl HLI.out (by simp [ndC,Value.oneCell']) (by unfold maxLen;omega) (by omega) HBS.out (by decide) ?_;intro g8 c8 w12 hE;have HE8:=Hi hE;clear hE)
   have HST:=Hi (arr_step HOW.out HTS.out (by omega) HU11.out HT11.out HE8.out);have hgw:=(own_at HOW.out).1;have HJ8:Hid (FoI w bp d n x y r6 (zs ++ [x']) r11 g8 c8 w12):=Hi ⟨fun o h=>HH.out.rd o (r_inners hon HR11.out h),HP11.out.far HST.out.2.2 fun b hb=>by omega,HG11.out,by have:=HH.out.lt;simp only [List.length_cons] at this;omega,HST.out.1,by simp;omega,HST.out.2.1 w (by omega) HH.out.ub,(HH.out.res.upd HU11.out (by omega)).upd HST.out.2.2 (by omega)⟩
   go_roundw
   case rel=>exact ⟨zs ++ [x'],r11,g8,c8,by rw [List.length_append];rfl,Hi ⟨by omega,HJ8.out⟩⟩
   case measure=>
    rw [PS.len HJ8.out.ps,PS.len HH.out.ps];simp only [List.length_cons];omega
theorem inner_for{n:Nat}(H:InC n)(w:World)(bp d:Nat)(t:Tk)(r:List Tk)(hn:r.length≤n)(hd:d≤60)(hp:PS w bp (t :: r) d)(hg:Gt (t :: r))(ht:isS [102,111,114] t=true) :
  Calls Tryz.prog 88 #[.pointer (some ⟨bp,0,none⟩)] w (OutP w bp d (t :: r) (Rd numV .inner d (t :: r))):=by
 have hlt:=hp.lt;obtain ⟨w0,hw0⟩:∃ w0,w.alloc (.cells #[.int .i64 0,.string ⟨#[]⟩,.int .u32 0,.int .i64 0,.slice none 0 0,.slice none 0 0] 62)=w0:=⟨_,rfl⟩;have hb0:Below w.heap.size w w0:=by rw [←hw0];exact (Below.refl _ _).alloc (Nat.le_refl _) _
 have hB:Blk w0 w.heap.size 62 #[.int .i64 0,.string ⟨#[]⟩,.int .u32 0,.int .i64 0,.slice none 0 0,.slice none 0 0]:=by rw [←hw0];exact Blk.new _ _ _
 have his:=is_ w0 bp d t r [102,111,114] (hp.below hb0);rw [←isS_eq hg.hd (by decide),ht] at his;have HIS:=Hi his;have HLO:=Hi fun (w':World) (hb:Below w0.heap.size w0 w')=>loop H w' bp d t r hn hd ((hp.below hb0).below hb) hg ht
 have HU0:=Hi (below_UB (bp:=bp) hb0);have HB:=Hi hB;have HW:=Hi hw0;have HTT:=Hi ht;have hlb:=hB.lt;clear hb0 hp hw0 hB hg ht his;go_enter Tryz.func88,Tryz.ntmps88;go_wp2_with fail
 rw [HW.out];refine HIS.out.mono ?_;rintro e w1 ⟨rfl,hb1⟩;have HL1:=Hi (HLO.out w1 hb1);have HB1:=Hi hb1;have h01:=hb1.size;clear hb1 HLO;go_wp2_with fail
 refine HL1.out.mono ?_;rintro e w2 (⟨k,a,s,m,A,la,cA,B,lb,cB,x,r',rfl,hT,hR,hP,hG,hr,hU⟩ | ⟨a,er,rfl,hR,hU⟩)
 ·have hX:=(HB.out.below HB1.out HB.out.lt).upd hU (show ¬ w.heap.size=bp by omega);obtain ⟨⟨e0,e1,e2,e3,e4,e5⟩,z0,z1,z2,z3,z4,z5⟩:=Blk.c6 hX;have HX:=Hi hX;have HT:=Hi hT;have HR:=Hi (r_for hd HTT.out hR);have HP:=Hi hP;have HG:=Hi hG;have HU:=Hi ((HU0.out.trans (below_UB HB1.out)).trans hU);clear hX hT hR hP hG hU;go_wp2_with fail
  exact bodyPost_ret (resNd rfl rfl (Blk.put6 HX.out _ _ _ _ _ _) rfl) rfl (out_ok hlt (by omega) HT.out HR.out HP.out HG.out hr HU.out)
 ·have HR:=Hi (r_for hd HTT.out hR);have HU:=Hi ((HU0.out.trans (below_UB HB1.out)).trans hU);clear hR hU;go_wp2_with fail
  exact ⟨rfl,.inr ⟨_,_,rfl,HR.out,HU.out⟩⟩
theorem inner_let(w:World)(bp d:Nat)(t:Tk)(r:List Tk)(hd:d≤60)(hp:PS w bp (t :: r) d)(hg:Gt (t :: r))(ht:isS [102,111,114] t=false) :
  Calls Tryz.prog 88 #[.pointer (some ⟨bp,0,none⟩)] w (OutP w bp d (t :: r) (Rd numV .inner d (t :: r))):=by
 have hlt:=hp.lt;obtain ⟨w0,hw0⟩:∃ w0,w.alloc (.cells #[.int .i64 0,.string ⟨#[]⟩,.int .u32 0,.int .i64 0,.slice none 0 0,.slice none 0 0] 62)=w0:=⟨_,rfl⟩;have hb0:Below w.heap.size w w0:=by rw [←hw0];exact (Below.refl _ _).alloc (Nat.le_refl _) _
 have hB:Blk w0 w.heap.size 62 #[.int .i64 0,.string ⟨#[]⟩,.int .u32 0,.int .i64 0,.slice none 0 0,.slice none 0 0]:=by rw [←hw0];exact Blk.new _ _ _
 have his:=is_ w0 bp d t r [102,111,114] (hp.below hb0);rw [←isS_eq hg.hd (by decide),ht] at his;have HIS:=Hi his;have HNX:=Hi fun (w':World) (hb:Below w0.heap.size w0 w')=>next w' bp d t r ((hp.below hb0).below hb)
 have HSE:=Hi fun (w':World) (hb:Below w0.heap.size w0 w')=>set 10 t.at_ w' bp d (t :: r) hd ((hp.below hb0).below hb) hg
 have HU0:=Hi (below_UB (bp:=bp) hb0);have HB:=Hi hB;have HW:=Hi hw0;have HTT:=Hi ht;have hlb:=hB.lt;clear hb0 hp hw0 hB hg ht his;go_enter Tryz.func88,Tryz.ntmps88;go_wp2_with fail
 rw [HW.out];refine HIS.out.mono ?_;rintro e wx ⟨rfl,hbx⟩;have HN1:=Hi (HNX.out wx hbx);have HBX:=Hi hbx;clear hbx HNX;go_wp2_with fail
 refine HN1.out.mono ?_;rintro e w1 ⟨rfl,hb1⟩;have hb1':=HBX.out.trans (hb1.mono HBX.out.size);have HL1:=Hi (show Calls Tryz.prog 85 #[.pointer (some ⟨bp,0,none⟩),.int .i64 10,.int .i64 (t.at_:Int)] w1 _ from HSE.out w1 hb1');have HB1:=Hi hb1';have h01:=hb1'.size;clear hb1 hb1' HSE;go_wp2_with fail
 refine HL1.out.mono ?_;rintro e w2 (⟨k,a,s,m,A,la,cA,B,lb,cB,x,r',rfl,hT,hR,hP,hG,hr,hU⟩ | ⟨a,er,rfl,hR,hU⟩)
 ·have hX:=(HB.out.below HB1.out HB.out.lt).upd hU (show ¬ w.heap.size=bp by omega);obtain ⟨⟨e0,e1,e2,e3,e4,e5⟩,z0,z1,z2,z3,z4,z5⟩:=Blk.c6 hX;have HX:=Hi hX;have HT:=Hi hT;have HR:=Hi (r_let hd HTT.out hR);have HP:=Hi hP;have HG:=Hi hG;have HU:=Hi ((HU0.out.trans (below_UB HB1.out)).trans hU);clear hX hT hR hP hG hU;go_wp2_with fail
  exact bodyPost_ret (resNd rfl rfl (Blk.put6 HX.out _ _ _ _ _ _) rfl) rfl (out_ok hlt (by omega) HT.out HR.out HP.out HG.out hr HU.out)
 ·have HR:=Hi (r_let hd HTT.out hR);have HU:=Hi ((HU0.out.trans (below_UB HB1.out)).trans hU);clear hR hU;go_wp2_with fail
  exact ⟨rfl,.inr ⟨_,_,rfl,HR.out,HU.out⟩⟩
theorem inn:∀ n,InC n
 | 0=>fun w bp d l hl _ _ hg=>by
  obtain ⟨t,r,rfl⟩:=hg.cons;simp at hl
 | n+1=>fun w bp d l hl hd hp hg=>by
  obtain ⟨t,r,rfl⟩:=hg.cons;simp only [List.length_cons] at hl;cases ht:isS [102,111,114] t
  ·exact inner_let w bp d t r hd hp hg ht
  ·exact inner_for (inn n) w bp d t r (by omega) hd hp hg ht
end
end Go.Proofs.YtdhoemlomojfaaaGreatDoor.Pa
