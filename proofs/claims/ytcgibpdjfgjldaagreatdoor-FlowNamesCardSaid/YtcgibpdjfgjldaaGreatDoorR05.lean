/- DERIVED. PaSm, ShPt, NmSt, NmIs, NmSm, NmCk. By an AI agent. -/
import Derived.Test.YtcgibpdjfgjldaaGreatDoorR04
import Derived.Laws.Slices
set_option maxRecDepth 100000
set_option maxHeartbeats 2000000
set_option linter.unusedVariables false
set_option linter.unusedSimpArgs false
open Go Go.ChangeShapes Go.WideShapes Go.ChangeAt Go.RowKit
namespace Go.Proofs.YtcgibpdjfgjldaaGreatDoor
namespace Pa
open Lx Args
section
theorem szTk:(Tryz.prog.info? 63).map (·.size)=some 3:=V1
theorem szNd:(Tryz.prog.info? 26).map (·.size)=some 6:=V1
theorem szWr:(Tryz.prog.info? 158).map (·.size)=some 2:=V1
theorem bH(k a:Int)(s:ByteArray)(w:World):(Instr.field 63 (.agg #[.int .i64 k,.string s,.int .i64 a]) 0).run Tryz.prog w = .ok (.int .i64 k) w:=V1
theorem bI(k a:Int)(s:ByteArray)(w:World):(Instr.field 63 (.agg #[.int .i64 k,.string s,.int .i64 a]) 1).run Tryz.prog w = .ok (.string s) w:=V1
theorem bJ(k a:Int)(s:ByteArray)(w:World):(Instr.field 63 (.agg #[.int .i64 k,.string s,.int .i64 a]) 2).run Tryz.prog w = .ok (.int .i64 a) w:=V1
attribute [local go_sem] bH bI bJ
theorem resTk{fn:Func}{p:Tmp}(h:fn.results = #[.cell p 63]){tmps:Array Value}{W:World}{g:Nat}{t:TypeId}{cs:Array Value}(hp:tmps.getD p undef = .pointer (some ⟨g,0,none⟩))(hg:Aa W g t cs)(hs:some 3=some cs.size) :
  (results fn tmps).run Tryz.prog W = .ok (.agg cs) W:=results_cell_row h tmps W g t cs (0,0) _ hp hg Tryz.underlying63 rfl (szTk.trans hs)
theorem aH{fn:Func}{p:Tmp}(h:fn.results = #[.cell p 26]){tmps:Array Value}{W:World}{g:Nat}{t:TypeId}{cs:Array Value}(hp:tmps.getD p undef = .pointer (some ⟨g,0,none⟩))(hg:Aa W g t cs)(hs:some 6=some cs.size) :
  (results fn tmps).run Tryz.prog W = .ok (.agg cs) W:=results_cell_row h tmps W g t cs (0,0) _ hp hg Tryz.underlying26 rfl (szNd.trans hs)
theorem resWr{fn:Func}{p:Tmp}(h:fn.results = #[.cell p 158]){tmps:Array Value}{W:World}{g:Nat}{t:TypeId}{cs:Array Value}(hp:tmps.getD p undef = .pointer (some ⟨g,0,none⟩))(hg:Aa W g t cs)(hs:some 2=some cs.size) :
  (results fn tmps).run Tryz.prog W = .ok (.agg cs) W:=results_cell_row h tmps W g t cs (0,0) _ hp hg Tryz.underlying158 rfl (szWr.trans hs)
theorem Aa.put2{w:World}{g:Nat}{t:TypeId}{a b:Value}(h:Aa w g t #[a,b])(a' b':Value):Aa ((w.setCell ⟨g,0,none⟩ a').setCell ⟨g,1,none⟩ b') g t #[a',b']:=(h.set 0 a').set 1 b'
theorem Aa.put3{w:World}{g:Nat}{t:TypeId}{a b c:Value}(h:Aa w g t #[a,b,c])(a' b' c':Value):Aa (((w.setCell ⟨g,0,none⟩ a').setCell ⟨g,1,none⟩ b').setCell ⟨g,2,none⟩ c') g t #[a',b',c']:=((h.set 0 a').set 1 b').set 2 c'
def az(w:World)(g:Nat)(a b c d e f:Value):World:=(((((w.setCell ⟨g,0,none⟩ a).setCell ⟨g,1,none⟩ b).setCell ⟨g,2,none⟩ c).setCell ⟨g,3,none⟩ d).setCell ⟨g,4,none⟩ e).setCell ⟨g,5,none⟩ f
theorem Aa.az{w:World}{g:Nat}{t:TypeId}{a b c d e f:Value}(h:Aa w g t #[a,b,c,d,e,f])(a' b' c' d' e' f':Value):Aa (az w g a' b' c' d' e' f') g t #[a',b',c',d',e',f']:=(((((h.set 0 a').set 1 b').set 2 c').set 3 d').set 4 e').set 5 f'
theorem q0u{w:World}{g g0:Nat}{t:TypeId}{cs:Array Value}(h:Aa w g t cs)(hg:g≠g0)(a b c d e f:Value):Aa (az w g0 a b c d e f) g t cs:=(((((h.far (p:=⟨g0,0,none⟩) hg a).far (p:=⟨g0,1,none⟩) hg b).far (p:=⟨g0,2,none⟩) hg c).far (p:=⟨g0,3,none⟩) hg d).far (p:=⟨g0,4,none⟩) hg e).far (p:=⟨g0,5,none⟩) hg f
theorem q09{X:Nat->Prop}{w0 w:World}{g:Nat}(h:Upd X w0 w)(hg:g < w0.heap.size->X g)(a b c d e f:Value):Upd X w0 (az w g a b c d e f):=
 (((((h.setCell (p:=⟨g,0,none⟩) hg a).setCell (p:=⟨g,1,none⟩) hg b).setCell (p:=⟨g,2,none⟩) hg c).setCell (p:=⟨g,3,none⟩) hg d).setCell (p:=⟨g,4,none⟩) hg e).setCell (p:=⟨g,5,none⟩) hg f
theorem next(w:World)(bp d:Nat)(t:Tk)(r:List Tk)(hp:PS w bp (t :: r) d) :
  Calls Tryz.prog 101 #[.pointer (some ⟨bp,0,none⟩)] w fun e w'=>e = .returned (.agg #[.int .i64 (t.k:Int),.string ⟨t.s.toArray⟩,.int .i64 (t.at_:Int)])/\Below w.heap.size w w':=by
 obtain ⟨b,o,c,hn,hc1,hc2,f0,f1,f2,f3,f4,f5,f6⟩:=hp.head;have hlt:=hp.lt;have hbl:b < w.heap.size:=World.block_lt_of_cell? w _ f4;have HN:=Hi hn;clear hn hp;go_enter Tryz.func101,Tryz.ntmps101;go_wp2_with fail
 refine bodyPost_ret (resTk rfl rfl (Aa.new _ _ _) rfl) rfl ⟨rfl,?_⟩;exact (Below.refl _ _).alloc (Nat.le_refl _) _
theorem q01{bp:Nat}{w w':World}(h:Below w.heap.size w w'):UB bp w w':=Upd.of_below h _
theorem here(w:World)(bp d:Nat)(t:Tk)(r:List Tk)(er:Int)(hp:PS w bp (t :: r) d) :
  Calls Tryz.prog 102 #[.pointer (some ⟨bp,0,none⟩),.int .i64 er] w fun e w'=>e = .returned (.agg #[.int .i64 (t.at_:Int),.int .i64 er])/\Below w.heap.size w w':=by
 obtain ⟨w0,hw0,hb0,hB⟩:=aS w #[.int .i64 0,.int .i64 0] 158;have HN:=Hi (next w0 bp d t r (hp.below hb0));have HB0:=Hi hb0;have HB:=Hi hB;have HW:=Hi hw0;clear hb0 hB hp hw0;go_enter Tryz.func102,Tryz.ntmps102;go_wp2_with fail
 rw [HW.out];refine HN.out.mono ?_;rintro e w1 ⟨rfl,hb1⟩;have hlt:=HB.out.lt;have h1:Aa w1 w.heap.size 158 #[.int .i64 0,.int .i64 0]:=HB.out.below hb1 hlt;have c0:w1.cell? ⟨w.heap.size,0,none⟩=some (.int .i64 0):=h1.cell 0;have c1:w1.cell? ⟨w.heap.size,1,none⟩=some (.int .i64 0):=h1.cell 1;have z0:=h1.frozen 0;have z1:=h1.frozen 1;have H1:=Hi h1;have HB1:=Hi (HB0.out.trans (hb1.mono HB0.out.size));clear h1 hb1;go_wp2_with fail
 refine bodyPost_ret (resWr rfl rfl (Aa.put2 H1.out _ _) rfl) rfl ⟨rfl,?_⟩;exact (HB1.out.setCell (Nat.le_refl _) _).setCell (Nat.le_refl _) _
end
end Pa
namespace Sh
open Lx Args Pa
mutual
theorem TIz.below{q:Prop}{w w':World}(hb:Below w.heap.size w w'):∀ {z:Tz} {cs:List Value},TIc q w z cs->TIc q w' z cs
 | .mk k a s n ps l,cs,h=>by
  unfold TIc at h ⊢;obtain ⟨A,cA,B,cB,h1,h2,h3,h9,css,h10,h11,h12⟩:=h;exact ⟨A,cA,B,cB,h1,h2,h3,h9.below hb,css,h10.below hb,TsIz.below hb h11,h12⟩
theorem TsIz.below{q:Prop}{w w':World}(hb:Below w.heap.size w w'):∀ {l:List Tz} {css:List (List Value)},Am q w l css->Am q w' l css
 | [],_,h=>by unfold Am at h ⊢;exact h
 | x :: l,_,h=>by
  unfold Am at h ⊢;obtain ⟨c,r,h1,h2,h3⟩:=h;exact ⟨c,r,h1,TIz.below hb h2,TsIz.below hb h3⟩
end
mutual
theorem q4W{N:Nat->Prop}{w:World}:∀ {x:Tr} {cs:List Value},Ak N w x cs->TIc True w (bD x) cs
 | .mk k a s n ps l,cs,h=>by
  unfold Ak at h;obtain ⟨A,cA,B,cB,rfl,h1,h2,h3,_,css,h4,_,h5⟩:=h;unfold bD TIc;have hl:(bS l).length=l.length:=q3j l;exact ⟨A,cA,B,cB,by rw [hl];rfl,by rw [hl];exact Nat.le_trans h1.few V2,Nat.le_trans h2.few V2,h3,css,h4,q5U h5,fun _=>⟨by rw [hl];exact ⟨h1.le,h1.cap⟩,h2.le,h2.cap⟩⟩
theorem q5U{N:Nat->Prop}{w:World}:∀ {l:List Tr} {css:List (List Value)},AJ N w l css->Am True w (bS l) css
 | [],_,h=>by unfold AJ at h;unfold bS Am;exact h
 | x :: l,_,h=>by
  unfold AJ at h;obtain ⟨c,r,rfl,h2,h3⟩:=h;unfold bS Am;exact ⟨c,r,rfl,q4W h2,q5U h3⟩
end
theorem q1V{q:Prop}{w:World}{z:Tz}{cs:List Value}(h:TIc q w z cs):∃ k a s n A la cA B lb cB,cs=nzC k a s n A la cA B lb cB:=by
 cases z;unfold TIc at h;obtain ⟨A,cA,B,cB,rfl,_⟩:=h;exact ⟨_,_,_,_,_,_,_,_,_,_,rfl⟩
theorem q5V{q:Prop}{w:World}:∀ {l:List Tz} {css:List (List Value)},Am q w l css->∀ (i:Nat) (x:Tz),l[i]?=some x->∃ c,TIc q w x c/\∀ j,j < 6->css.flatten[i * 6+j]?=c[j]?
 | [],_,_,i,x,hx=>by simp at hx
 | y :: l,_,h,i,x,hx=>by
  unfold Am at h;obtain ⟨c,r,rfl,h2,h3⟩:=h;have h5:c.length = 6:=V1D;cases i with
  | zero=>
   have:y=x:=Vo;subst this;refine ⟨c,h2,fun j hj=>?_⟩;rw [List.flatten_cons,List.getElem?_append_left V0]
   congr 1
   omega
  | succ i=>
   obtain ⟨c',h6,h7⟩:=q5V h3 i x Vo;refine ⟨c',h6,fun j hj=>?_⟩;rw [List.flatten_cons,List.getElem?_append_right V0,<-h7 j hj]
   congr 1
   omega
theorem q7m{q:Prop}{w:World}{l:List Tz}{css:List (List Value)}{A:Option Addr}(hL:Af w A css.flatten)(hT:Am q w l css){i:Nat}{y:Tz}(h:l[i]?=some y) :
  ∃ b o k a s n A' la cA B lb cB,A=some ⟨b,o,none⟩/\TIc q w y (nzC k a s n A' la cA B lb cB)/\b < w.heap.size/\w.cell? ⟨b,o+i * 6,none⟩=some (.int .i64 k)/\w.cell? ⟨b,o+i * 6+1,none⟩=some (.string ⟨s.toArray⟩) /\
   w.cell? ⟨b,o+i * 6+2,none⟩=some (.int .u32 (n:Int))/\w.cell? ⟨b,o+i * 6+3,none⟩=some (.int .i64 a)/\w.cell? ⟨b,o+i * 6+4,none⟩=some (.slice A' la cA)/\w.cell? ⟨b,o+i * 6+5,none⟩=some (.slice B lb cB):=by
 obtain ⟨c,h1,h2⟩:=q5V hT i y h;obtain ⟨k,a,s,n,A',la,cA,B,lb,cB,rfl⟩:=q1V h1;have g0:=h2 0 V0;have g1:=h2 1 V0;have g2:=h2 2 V0;have g3:=h2 3 V0;have g4:=h2 4 V0;have g5:=h2 5 V0;obtain ⟨b,o,rfl,hb,hc⟩:=hL.at_ (j:=i * 6+0) (g0.trans rfl);refine ⟨b,o,k,a,s,n,A',la,cA,B,lb,cB,rfl,h1,hb,hc _ _ (g0.trans rfl),?_,?_,?_,?_,?_⟩
 ·exact V1W
 ·exact V1V
 ·rw [Nat.add_assoc];exact hc _ _ (g3.trans rfl)
 ·rw [Nat.add_assoc];exact hc _ _ (g4.trans rfl)
 ·rw [Nat.add_assoc];exact hc _ _ (g5.trans rfl)
theorem q0B{q:Prop}{w:World}{k1 a1:Int}{n1:Nat}{s1:Bs}{ps:List Bs}{l:List Tz}{k a s n A la cA B lb cB}(h:TIc q w (.mk k1 a1 s1 n1 ps l) (nzC k a s n A la cA B lb cB)) :
  k=k1/\s=s1/\n=n1/\a=a1/\la=l.length/\lb=ps.length/\l.length<=maxLen/\ps.length<=maxLen/\Af w B (ps.map ai)/\∃ css,Af w A css.flatten/\Am q w l css:=by
 unfold TIc at h;obtain ⟨A1,cA1,B1,cB1,h1,h2,h3,h9,css,h10,h11,_⟩:=h;unfold nzC at h1;simp only [List.cons.injEq,Value.int.injEq,Value.slice.injEq,Value.string.injEq,true_and,and_true] at h1;obtain ⟨e1,e2,e3,e4,⟨rfl,rfl,rfl⟩,rfl,rfl,rfl⟩:=h1;refine ⟨e1,?_,Int.ofNat.inj e3,e4,rfl,rfl,h2,h3,h9,css,h10,h11⟩;have:=congrArg (fun b:ByteArray=>b.data.toList) e2;simpa using this
theorem q3p{w:World}{k1 a1:Int}{n1:Nat}{s1:Bs}{ps:List Bs}{l:List Tz}{k a s n A la cA B lb cB}(h:TIc True w (.mk k1 a1 s1 n1 ps l) (nzC k a s n A la cA B lb cB)):l.length<=cA/\cA<=maxLen:=by
 unfold TIc at h;obtain ⟨A1,cA1,B1,cB1,h1,_,_,_,css,_,_,h12⟩:=h;unfold nzC at h1;simp only [List.cons.injEq,Value.slice.injEq,true_and,and_true] at h1;obtain ⟨_,_,_,_,⟨_,_,rfl⟩,_⟩:=h1;exact (h12 trivial).1
theorem q4X{w:World}{k1 a1:Int}{n1:Nat}{s1:Bs}{ps:List Bs}{l:List Tz}{k a s n A la cA B lb cB}(h:TIc True w (.mk k1 a1 s1 n1 ps l) (nzC k a s n A la cA B lb cB)):ps.length<=cB/\cB<=maxLen:=by
 unfold TIc at h;obtain ⟨A1,cA1,B1,cB1,h1,_,_,_,css,_,_,h12⟩:=h;unfold nzC at h1;simp only [List.cons.injEq,Value.slice.injEq,true_and,and_true] at h1;obtain ⟨_,_,_,_,_,_,_,rfl⟩:=h1;exact (h12 trivial).2
mutual
theorem q4Y{q:Prop}{w:World}:∀ {z:Tz} {cs:List Value},TIc q w z cs->TIz w z cs
 | .mk k a s n ps l,cs,h=>by
  unfold TIc at h ⊢;obtain ⟨A,cA,B,cB,h1,h2,h3,h9,css,h10,h11,_⟩:=h;exact ⟨A,cA,B,cB,h1,h2,h3,h9,css,h10,q0m h11,fun h=>h.elim⟩
theorem q0m{q:Prop}{w:World}:∀ {l:List Tz} {css:List (List Value)},Am q w l css->TsIz w l css
 | [],_,h=>by unfold Am at h ⊢;exact h
 | x :: l,_,h=>by
  unfold Am at h ⊢;obtain ⟨c,r,h1,h2,h3⟩:=h;exact ⟨c,r,h1,q4Y h2,q0m h3⟩
end
theorem q0S{x:Tz}{k a:Int}{n:Nat}{s:Bs}{ps:List Bs}{l:List Tz}{i:Nat}(h:l[i]?=some x):SizeOf.sizeOf x < SizeOf.sizeOf (Tz.mk k a s n ps l):=by
 have h1:=List.sizeOf_lt_of_mem (List.mem_of_getElem? h);simp only [Tz.mk.sizeOf_spec];omega
end Sh
namespace Nm
open Lx Args Pa Sh
abbrev aO(k a:Int)(s:Bs)(n:Nat)(A:Option Addr)(la cA:Nat)(B:Option Addr)(lb cB:Nat):Value:=.agg #[.int .i64 k,.string ⟨s.toArray⟩,.int .u32 (n:Int),.int .i64 a,.slice A la cA,.slice B lb cB]
abbrev nB(k a:Int)(s:Bs)(n:Nat)(A:Option Addr)(la cA:Nat)(B:Option Addr)(lb cB:Nat):Array Value:=#[.int .i64 k,.string ⟨s.toArray⟩,.int .u32 (n:Int),.int .i64 a,.slice A la cA,.slice B lb cB]
theorem dw(w:World)(cs:Array Value):∃ w1,w.alloc (.cells cs 26)=w1/\Below w.heap.size w w1/\Aa w1 w.heap.size 26 cs/\w1.heap.size=w.heap.size+1:=
 ⟨_,rfl,(Below.refl _ _).alloc (Nat.le_refl _) _,Aa.new _ _ _,V3⟩
theorem ae{X:Nat->Prop}{w w':World}{base:Nat}{e:TypeId}{size n:Nat}{v:Value}{xs:List Value}(h:w.ownsRow base e size v n xs)(hu:Upd X w w')(hX:∀ g,v.ownBlock=some g->¬ X g):w'.ownsRow base e size v n xs:=by
 obtain ⟨h1,h2⟩:=h;refine ⟨h1,?_⟩;rcases h2 with h2 | ⟨g,cap,cur,e1,h3,h4,h5⟩
 ·exact .inl h2
 ·exact V35
theorem av{w:World}{lo:Nat}{e:TypeId}{size n:Nat}{v:Value}{xs:List Value}(h:w.ownsRow lo e size v n xs):∀ g,v.ownBlock=some g->lo<=g/\g < w.heap.size:=fun g hg=>by
 rcases h.2 with ⟨h,_⟩ | ⟨g',cap,cur,h,hb,hh,_⟩
 ·rw [h] at hg;cases hg
 ·rw [h] at hg;cases hg;exact V1S
theorem q7n{w:World}{lo:Nat}{e:TypeId}{size n k c:Nat}{A:Option Addr}{xs:List Value}(h:w.ownsRow lo e size (.slice A n c) n xs)(hk:k<=n)(hA:A≠none):w.ownsRow lo e size (.slice A k c) k (xs.take (k * size)):=by
 obtain ⟨h1,h2⟩:=h;have hks:k * size<=n * size:=Nat.mul_le_mul_right _ hk;refine ⟨by rw [List.length_take,h1];omega,?_⟩;rcases h2 with ⟨h2,_⟩ | ⟨g,cap,cur,e1,h3,h4,h5,h6,h7,h8⟩
 ·cases h2;exact absurd rfl hA
 ·cases e1;refine .inr ⟨g,c,cur,rfl,h3,h4,V0,h6,h7,?_⟩;rw [<-h8,List.take_take]
  congr 1
  omega
theorem q2D{P:Program}{w:World}(base:Nat)(t ty e:TypeId)(i:TypeInfo)(z:Value)(size bytes:Nat)(ht:P.underlying t=some (.slice e))(hi:P.info? e=some i)(hz:i.zero=some z)
  (hsize:i.size=size) (hby:i.bytes=bytes) (hzs:z.cells.size=size) (hsz:0 < size) (v:Value) (n:Nat) (xs:List Value) (hown:w.ownsRow base e size v n xs)
  (A:Option Addr) (m d:Nat) (news:List Value) (hl:news.length=m * size) (hL:Af w A news) (h1:∀ u∈news,u.oneCell'=true) (h63:n+m<=maxLen) (hbytes:(n+m) * bytes<=140737488355328) (hbase:base<=w.heap.size) :
  ∃ v' w',(Builtin.append_ #[t,t] ty #[v,.slice A m d]).run P w = .ok v' w'/\w'.ownsRow base e size v' (n+m) (xs ++ news)/\w.grownBy w' v.ownBlock/\(v'.ownBlock=v.ownBlock\/v'.ownBlock=some w.heap.size):=by
 rcases Nat.eq_zero_or_pos m with hm | hm
 ·subst hm;have hn:news=[]:=List.eq_nil_of_length_eq_zero V0;subst hn;refine ⟨v,w,?_,by simpa using hown,World.grownBy.refl w _,.inl rfl⟩;have hf:∀ A,(Builtin.firstCells i.size 0 (.slice A 0 d)).run P w = .ok #[] w:=fun A=>by
   cases A with
   | none=>exact run_firstCells_none _ _ _ _ _
   | some a=>exact run_firstCells_some (P:=P) w i.size 0 a 0 d [] V3 V3
  rcases hown.2 with ⟨rfl,rfl⟩ | ⟨g,cap,cur,rfl,_,_,hnc,_⟩
  ·simp [Builtin.append_,run_underlying ht,sizeOf,typeInfo,hi,Builtin.lenOf,hf]
  ·simp [Builtin.append_,run_underlying ht,sizeOf,typeInfo,hi,Builtin.lenOf,hf,hnc,storeCells]
 ·cases A with
  | none=>
   have:0 < news.length:=by rw [hl];exact Nat.mul_pos hm hsz
   obtain ⟨a,ha,_⟩:=hL 0 (news[0]) (List.getElem?_eq_getElem this);cases ha
  | some a=>exact q0M (P:=P) w base t ty e i z size bytes ht hi hz hsize hby hzs hsz v n xs hown a m d news hl (fun j u hj=>by
   obtain ⟨b,hb,hc⟩:=hL j u hj;cases hb;exact hc) h1 h63 hbytes hbase hm
def laC(x:Bs×Bool):List Value:=[.string ⟨x.1.toArray⟩,.bool false,.bool x.2]
def Dis(L:List (Option Nat)):Prop:=L.Pairwise fun a b=>∀ x,a=some x->b≠some x
structure CV(N:Nat->Prop)(lo:Nat)(w:World)(g:Nat)(vs vp vo ve:Value)(kb ob:Nat)(se pu:List Bs)(ou:List (Bs×Bool))(en:List Bs)(kn:Kn)(f:Bs->Bool)(m:Nat):Prop where
 blk:Aa w g 109 #[vs,vp,vo,.map (some kb),.map (some ob),ve]
 os:w.ownsRow lo 9 1 vs se.length (se.map ai)
 op:w.ownsRow lo 9 1 vp pu.length (pu.map ai)
 oo:w.ownsRow lo 36 3 vo ou.length (ou.flatMap laC)
 oe:w.ownsRow lo 9 1 ve en.length (en.map ai)
 mp:MpK w kb m kn
 ms:MpS w ob m f
 dis:Dis [some g,some kb,some ob,vs.ownBlock,vp.ownBlock,vo.ownBlock,ve.ownBlock]
 bY:∀ x∈[some g,some kb,some ob,vs.ownBlock,vp.ownBlock,vo.ownBlock,ve.ownBlock],∀ b,x=some b->N b
 lo_:lo<=g/\lo<=kb/\lo<=ob/\lo<=w.heap.size
section
variable {N N' X : Nat -> Prop} {lo : Nat} {w w' : World} {g : Nat} {vs vp vo ve v' : Value} {kb ob : Nat} {se pu : List Bs} {ou : List (Bs × Bool)} {en : List Bs} {kn : Kn} {f : Bs -> Bool} {m m' : Nat}
theorem CV.far(h:CV N lo w g vs vp vo ve kb ob se pu ou en kn f m)(hu:Upd X w w')(hX:∀ b,N b->¬ X b):CV N lo w' g vs vp vo ve kb ob se pu ou en kn f m:=
 ⟨h.blk.upd hu (hX g (h.bY _ V3 g rfl)),ae h.os hu fun b hb=>hX b (h.bY _ V3 b hb),ae h.op hu fun b hb=>hX b (h.bY _ V3 b hb),ae h.oo hu fun b hb=>hX b (h.bY _ V3 b hb),
  ae h.oe hu fun b hb=>hX b (h.bY _ V3 b hb),h.mp.upd hu (hX kb (h.bY _ V3 kb rfl)),h.ms.upd hu (hX ob (h.bY _ V3 ob rfl)),h.dis,h.bY,h.lo_.1,h.lo_.2.1,h.lo_.2.2.1,Nat.le_trans h.lo_.2.2.2 hu.size⟩
theorem CV.below(h:CV N lo w g vs vp vo ve kb ob se pu ou en kn f m)(hb:Below w.heap.size w w'):CV N lo w' g vs vp vo ve kb ob se pu ou en kn f m:=h.far (Upd.of_below hb fun _=>False) fun _ _ h=>h
theorem CV.lts(h:CV N lo w g vs vp vo ve kb ob se pu ou en kn f m):∀ x∈[some g,some kb,some ob,vs.ownBlock,vp.ownBlock,vo.ownBlock,ve.ownBlock],∀ b,x=some b->b < w.heap.size/\lo<=b:=fun x hx b hb=>by
 simp only [List.mem_cons,List.not_mem_nil,or_false] at hx;rcases hx with e | e | e | e | e | e | e
 ·rw [e] at hb;cases hb;exact ⟨h.blk.lt,h.lo_.1⟩
 ·rw [e] at hb;cases hb;exact ⟨h.mp.lt,h.lo_.2.1⟩
 ·rw [e] at hb;cases hb;exact ⟨h.ms.lt,h.lo_.2.2.1⟩
 ·rw [e] at hb;exact (av h.os b hb).symm
 ·rw [e] at hb;exact (av h.op b hb).symm
 ·rw [e] at hb;exact (av h.oo b hb).symm
 ·rw [e] at hb;exact (av h.oe b hb).symm
theorem CV.mono(h:CV N lo w g vs vp vo ve kb ob se pu ou en kn f m)(hN:∀ b,N b->b < w.heap.size->lo<=b->N' b):CV N' lo w g vs vp vo ve kb ob se pu ou en kn f m:=
 ⟨h.blk,h.os,h.op,h.oo,h.oe,h.mp,h.ms,h.dis,fun x hx b hb=>hN b (h.bY x hx b hb) (h.lts x hx b hb).1 (h.lts x hx b hb).2,h.lo_⟩
theorem CV.more(h:CV N lo w g vs vp vo ve kb ob se pu ou en kn f m)(hm:m<=m'):CV N lo w g vs vp vo ve kb ob se pu ou en kn f m':=⟨h.blk,h.os,h.op,h.oo,h.oe,h.mp.mono hm,h.ms.mono hm,h.dis,h.bY,h.lo_⟩
theorem CV.ne(h:CV N lo w g vs vp vo ve kb ob se pu ou en kn f m):(g≠kb/\g≠ob/\vs.ownBlock≠some g/\vp.ownBlock≠some g/\vo.ownBlock≠some g/\ve.ownBlock≠some g)/\(kb≠ob/\vs.ownBlock≠some kb/\vp.ownBlock≠some kb/\vo.ownBlock≠some kb/\ve.ownBlock≠some kb) /\
  (vs.ownBlock≠some ob/\vp.ownBlock≠some ob/\vo.ownBlock≠some ob/\ve.ownBlock≠some ob)/\((∀ x,vs.ownBlock=some x->vp.ownBlock≠some x)/\(∀ x,vs.ownBlock=some x->vo.ownBlock≠some x)/\(∀ x,vs.ownBlock=some x->ve.ownBlock≠some x)) /\
  ((∀ x,vp.ownBlock=some x->vo.ownBlock≠some x)/\(∀ x,vp.ownBlock=some x->ve.ownBlock≠some x))/\(∀ x,vo.ownBlock=some x->ve.ownBlock≠some x):=by
 have hd:=h.dis;unfold Dis at hd;simp only [List.pairwise_cons,List.mem_cons,List.not_mem_nil,or_false,forall_eq_or_imp,forall_eq,List.Pairwise.nil,and_true] at hd;obtain ⟨⟨a1,a2,a3,a4,a5,a6⟩,⟨b2,b3,b4,b5,b6⟩,⟨c3,c4,c5,c6⟩,⟨d4,d5,d6⟩,⟨e5,e6⟩,f6,_⟩:=hd;exact ⟨⟨fun e=>a1 g rfl (by rw [e]),fun e=>a2 g rfl (by rw [e]),a3 g rfl,a4 g rfl,a5 g rfl,a6 g rfl⟩,⟨fun e=>b2 kb rfl (by rw [e]),b3 kb rfl,b4 kb rfl,b5 kb rfl,b6 kb rfl⟩,⟨c3 ob rfl,c4 ob rfl,c5 ob rfl,c6 ob rfl⟩,⟨d4,d5,d6⟩,⟨e5,e6⟩,f6⟩
theorem CV.kn'{kn':Kn}(h:CV N lo w g vs vp vo ve kb ob se pu ou en kn f m)(hu:Upd (fun b=>b=kb) w w')(hk:MpK w' kb m' kn')(hm:m<=m'):CV N lo w' g vs vp vo ve kb ob se pu ou en kn' f m':=by
 obtain ⟨⟨a1,a2,a3,a4,a5,a6⟩,⟨b2,b3,b4,b5,b6⟩,c,d⟩:=h.ne;exact ⟨h.blk.upd hu a1,ae h.os hu fun b hb e=>b3 Ve,ae h.op hu fun b hb e=>b4 Ve,ae h.oo hu fun b hb e=>b5 Ve,ae h.oe hu fun b hb e=>b6 Ve,hk,
  (h.ms.upd hu (fun e=>b2 e.symm)).mono hm,h.dis,h.bY,h.lo_.1,h.lo_.2.1,h.lo_.2.2.1,Nat.le_trans h.lo_.2.2.2 hu.size⟩
theorem CV.ob'{f':Bs->Bool}(h:CV N lo w g vs vp vo ve kb ob se pu ou en kn f m)(hu:Upd (fun b=>b=ob) w w')(hk:MpS w' ob m' f')(hm:m<=m'):CV N lo w' g vs vp vo ve kb ob se pu ou en kn f' m':=by
 obtain ⟨⟨a1,a2,a3,a4,a5,a6⟩,⟨b2,b3,b4,b5,b6⟩,⟨c3,c4,c5,c6⟩,d⟩:=h.ne;exact ⟨h.blk.upd hu a2,ae h.os hu fun b hb e=>c3 Ve,ae h.op hu fun b hb e=>c4 Ve,ae h.oo hu fun b hb e=>c5 Ve,ae h.oe hu fun b hb e=>c6 Ve,(h.mp.upd hu b2).mono hm,
  hk,h.dis,h.bY,h.lo_.1,h.lo_.2.1,h.lo_.2.2.1,Nat.le_trans h.lo_.2.2.2 hu.size⟩
theorem q1u{L:List (Option Nat)}{i:Nat}{o o':Option Nat}{n:Nat}(h:Dis L)(hi:L[i]?=some o)(ho:o'=o\/o'=some n)(hl:∀ x∈L,∀ b,x=some b->b < n):Dis (L.set i o'):=by
 unfold Dis at h ⊢;rw [List.pairwise_iff_getElem] at h ⊢;intro a b ha hb hab x hx hy;rw [List.length_set] at ha hb;rw [List.getElem_set] at hx hy;obtain ⟨hil,hio⟩:=List.getElem?_eq_some_iff.1 hi;by_cases e1:i=a
 ·rw [if_pos e1] at hx;rw [if_neg V0] at hy;rcases ho with e | e
  ·refine h a b ha hb hab x ?_ hy;subst e1;rw [hio,<-e];exact hx
  ·rw [e] at hx;cases hx;have:=hl _ (List.getElem_mem hb) _ hy;omega
 ·rw [if_neg e1] at hx;by_cases e2:i=b
  ·rw [if_pos e2] at hy;rcases ho with e | e
   ·refine h a b ha hb hab x hx ?_;subst e2;rw [hio,<-e];exact hy
   ·rw [e] at hy;cases hy;have:=hl _ (List.getElem_mem ha) _ hx;omega
  ·rw [if_neg e2] at hy;exact h a b ha hb hab x hx hy
theorem q0r{w:World}{base:Nat}{e:TypeId}{size n g i:Nat}{v u:Value}{xs:List Value}(h:w.ownsRow base e size v n xs)(hg:v.ownBlock≠some g):(w.setCell ⟨g,i,none⟩ u).ownsRow base e size v n xs:=
 ae h ((Upd.refl (fun b=>b=g) w).setCell (p:=⟨g,i,none⟩) (fun _=>rfl) u) fun b hb e=>hg Ve
theorem q0C{w:World}{g i b:Nat}{u:Value}(h:b≠g):(w.setCell ⟨g,i,none⟩ u).heap[b]?=w.heap[b]?:=Below.heap_setCell w ⟨g,i,none⟩ u b h
theorem CV.vs'{se':List Bs}(h:CV N lo w g vs vp vo ve kb ob se pu ou en kn f m)(hu:Upd (fun b=>vs.ownBlock=some b) w w')(hown:w'.ownsRow lo 9 1 v' se'.length (se'.map ai))(ha:v'.ownBlock=vs.ownBlock\/∃ n,w.heap.size<=n/\v'.ownBlock=some n) :
  CV (fun b=>N b\/w.heap.size<=b) lo (w'.setCell ⟨g,0,none⟩ v') g v' vp vo ve kb ob se' pu ou en kn f m:=by
 obtain ⟨⟨a1,a2,a3,a4,a5,a6⟩,⟨b2,b3,b4,b5,b6⟩,⟨c3,c4,c5,c6⟩,⟨d4,d5,d6⟩,⟨e5,e6⟩,f6⟩:=h.ne;have hg':v'.ownBlock≠some g:=fun e=>by
  rcases ha with ha | ⟨n,hn,ha⟩
  ·rw [ha] at e;exact a3 e
  ·exact V0S
 have hsz:w.heap.size<=(w'.setCell ⟨g,0,none⟩ v').heap.size:=Nat.le_trans hu.size (Upd.setCell (Upd.refl (fun b=>b=g) w') (p:=⟨g,0,none⟩) (fun _=>rfl) v').size;refine ⟨(h.blk.upd hu a3).set 0 v',q0r hown hg',q0r (ae h.op hu (fun b hb e=>d4 b e hb)) a4,q0r (ae h.oo hu (fun b hb e=>d5 b e hb)) a5,q0r (ae h.oe hu (fun b hb e=>d6 b e hb)) a6,(h.mp.upd hu b3).heap (q0C (Ne.symm a1)),(h.ms.upd hu c3).heap (q0C (Ne.symm a2)),?_,?_,h.lo_.1,h.lo_.2.1,h.lo_.2.2.1,Nat.le_trans h.lo_.2.2.2 hsz⟩
 ·have hl:=fun x hx b hb=>(h.lts x hx b hb).1
  rcases ha with ha | ⟨n,hn,ha⟩
  ·exact q1u (i:=3) (n:=w.heap.size) h.dis rfl (.inl ha) hl
  ·exact q1u (i:=3) (n:=n) h.dis rfl (.inr ha) fun x hx b hb=>Nat.lt_of_lt_of_le (hl x hx b hb) hn
 ·intro x hx b hb;have hN:=h.bY;simp only [List.mem_cons,List.not_mem_nil,or_false,forall_eq_or_imp,forall_eq] at hN hx;obtain ⟨n0,n1,n2,n3,n4,n5,n6⟩:=hN;have hv:∀ b,v'.ownBlock=some b->N b\/w.heap.size<=b:=fun b hb=>by
   rcases ha with ha | ⟨n,hn,ha⟩
   ·rw [ha] at hb;exact .inl (n3 b hb)
   ·exact V0X
  rcases hx with e | e | e | e | e | e | e
  ·exact V10
  ·exact V0Z
  ·exact V0Y
  ·rw [e] at hb;exact hv b hb
  ·rw [e] at hb;exact .inl (n4 b hb)
  ·rw [e] at hb;exact .inl (n5 b hb)
  ·rw [e] at hb;exact .inl (n6 b hb)
theorem CV.vp'{pu':List Bs}(h:CV N lo w g vs vp vo ve kb ob se pu ou en kn f m)(hu:Upd (fun b=>vp.ownBlock=some b) w w')(hown:w'.ownsRow lo 9 1 v' pu'.length (pu'.map ai))(ha:v'.ownBlock=vp.ownBlock\/∃ n,w.heap.size<=n/\v'.ownBlock=some n) :
  CV (fun b=>N b\/w.heap.size<=b) lo (w'.setCell ⟨g,1,none⟩ v') g vs v' vo ve kb ob se pu' ou en kn f m:=by
 obtain ⟨⟨a1,a2,a3,a4,a5,a6⟩,⟨b2,b3,b4,b5,b6⟩,⟨c3,c4,c5,c6⟩,⟨d4,d5,d6⟩,⟨e5,e6⟩,f6⟩:=h.ne;have hg':v'.ownBlock≠some g:=fun e=>by
  rcases ha with ha | ⟨n,hn,ha⟩
  ·rw [ha] at e;exact a4 e
  ·exact V0S
 have hsz:w.heap.size<=(w'.setCell ⟨g,1,none⟩ v').heap.size:=Nat.le_trans hu.size (Upd.setCell (Upd.refl (fun b=>b=g) w') (p:=⟨g,1,none⟩) (fun _=>rfl) v').size;refine ⟨(h.blk.upd hu a4).set 1 v',q0r (ae h.os hu (fun b hb e=>d4 b hb e)) a3,q0r hown hg',q0r (ae h.oo hu (fun b hb e=>e5 b e hb)) a5,q0r (ae h.oe hu (fun b hb e=>e6 b e hb)) a6,(h.mp.upd hu b4).heap (q0C (Ne.symm a1)),(h.ms.upd hu c4).heap (q0C (Ne.symm a2)),?_,?_,h.lo_.1,h.lo_.2.1,h.lo_.2.2.1,Nat.le_trans h.lo_.2.2.2 hsz⟩
 ·have hl:=fun x hx b hb=>(h.lts x hx b hb).1
  rcases ha with ha | ⟨n,hn,ha⟩
  ·exact q1u (i:=4) (n:=w.heap.size) h.dis rfl (.inl ha) hl
  ·exact q1u (i:=4) (n:=n) h.dis rfl (.inr ha) fun x hx b hb=>Nat.lt_of_lt_of_le (hl x hx b hb) hn
 ·intro x hx b hb;have hN:=h.bY;simp only [List.mem_cons,List.not_mem_nil,or_false,forall_eq_or_imp,forall_eq] at hN hx;obtain ⟨n0,n1,n2,n3,n4,n5,n6⟩:=hN;have hv:∀ b,v'.ownBlock=some b->N b\/w.heap.size<=b:=fun b hb=>by
   rcases ha with ha | ⟨n,hn,ha⟩
   ·rw [ha] at hb;exact .inl (n4 b hb)
   ·exact V0X
  rcases hx with e | e | e | e | e | e | e
  ·exact V10
  ·exact V0Z
  ·exact V0Y
  ·rw [e] at hb;exact .inl (n3 b hb)
  ·rw [e] at hb;exact hv b hb
  ·rw [e] at hb;exact .inl (n5 b hb)
  ·rw [e] at hb;exact .inl (n6 b hb)
theorem CV.vo'{ou':List (Bs×Bool)}(h:CV N lo w g vs vp vo ve kb ob se pu ou en kn f m)(hu:Upd (fun b=>vo.ownBlock=some b) w w')(hown:w'.ownsRow lo 36 3 v' ou'.length (ou'.flatMap laC))(ha:v'.ownBlock=vo.ownBlock\/∃ n,w.heap.size<=n/\v'.ownBlock=some n) :
  CV (fun b=>N b\/w.heap.size<=b) lo (w'.setCell ⟨g,2,none⟩ v') g vs vp v' ve kb ob se pu ou' en kn f m:=by
 obtain ⟨⟨a1,a2,a3,a4,a5,a6⟩,⟨b2,b3,b4,b5,b6⟩,⟨c3,c4,c5,c6⟩,⟨d4,d5,d6⟩,⟨e5,e6⟩,f6⟩:=h.ne;have hg':v'.ownBlock≠some g:=fun e=>by
  rcases ha with ha | ⟨n,hn,ha⟩
  ·rw [ha] at e;exact a5 e
  ·exact V0S
 have hsz:w.heap.size<=(w'.setCell ⟨g,2,none⟩ v').heap.size:=Nat.le_trans hu.size (Upd.setCell (Upd.refl (fun b=>b=g) w') (p:=⟨g,2,none⟩) (fun _=>rfl) v').size;refine ⟨(h.blk.upd hu a5).set 2 v',q0r (ae h.os hu (fun b hb e=>d5 b hb e)) a3,q0r (ae h.op hu (fun b hb e=>e5 b hb e)) a4,q0r hown hg',q0r (ae h.oe hu (fun b hb e=>f6 b e hb)) a6,(h.mp.upd hu b5).heap (q0C (Ne.symm a1)),(h.ms.upd hu c5).heap (q0C (Ne.symm a2)),?_,?_,h.lo_.1,h.lo_.2.1,h.lo_.2.2.1,Nat.le_trans h.lo_.2.2.2 hsz⟩
 ·have hl:=fun x hx b hb=>(h.lts x hx b hb).1
  rcases ha with ha | ⟨n,hn,ha⟩
  ·exact q1u (i:=5) (n:=w.heap.size) h.dis rfl (.inl ha) hl
  ·exact q1u (i:=5) (n:=n) h.dis rfl (.inr ha) fun x hx b hb=>Nat.lt_of_lt_of_le (hl x hx b hb) hn
 ·intro x hx b hb;have hN:=h.bY;simp only [List.mem_cons,List.not_mem_nil,or_false,forall_eq_or_imp,forall_eq] at hN hx;obtain ⟨n0,n1,n2,n3,n4,n5,n6⟩:=hN;have hv:∀ b,v'.ownBlock=some b->N b\/w.heap.size<=b:=fun b hb=>by
   rcases ha with ha | ⟨n,hn,ha⟩
   ·rw [ha] at hb;exact .inl (n5 b hb)
   ·exact V0X
  rcases hx with e | e | e | e | e | e | e
  ·exact V10
  ·exact V0Z
  ·exact V0Y
  ·rw [e] at hb;exact .inl (n3 b hb)
  ·rw [e] at hb;exact .inl (n4 b hb)
  ·rw [e] at hb;exact hv b hb
  ·rw [e] at hb;exact .inl (n6 b hb)
theorem CV.ve'{en':List Bs}(h:CV N lo w g vs vp vo ve kb ob se pu ou en kn f m)(hu:Upd (fun b=>ve.ownBlock=some b) w w')(hown:w'.ownsRow lo 9 1 v' en'.length (en'.map ai))(ha:v'.ownBlock=ve.ownBlock\/∃ n,w.heap.size<=n/\v'.ownBlock=some n) :
  CV (fun b=>N b\/w.heap.size<=b) lo (w'.setCell ⟨g,5,none⟩ v') g vs vp vo v' kb ob se pu ou en' kn f m:=by
 obtain ⟨⟨a1,a2,a3,a4,a5,a6⟩,⟨b2,b3,b4,b5,b6⟩,⟨c3,c4,c5,c6⟩,⟨d4,d5,d6⟩,⟨e5,e6⟩,f6⟩:=h.ne;have hg':v'.ownBlock≠some g:=fun e=>by
  rcases ha with ha | ⟨n,hn,ha⟩
  ·rw [ha] at e;exact a6 e
  ·exact V0S
 have hsz:w.heap.size<=(w'.setCell ⟨g,5,none⟩ v').heap.size:=Nat.le_trans hu.size (Upd.setCell (Upd.refl (fun b=>b=g) w') (p:=⟨g,5,none⟩) (fun _=>rfl) v').size;refine ⟨(h.blk.upd hu a6).set 5 v',q0r (ae h.os hu (fun b hb e=>d6 b hb e)) a3,q0r (ae h.op hu (fun b hb e=>e6 b hb e)) a4,q0r (ae h.oo hu (fun b hb e=>f6 b hb e)) a5,q0r hown hg',(h.mp.upd hu b6).heap (q0C (Ne.symm a1)),(h.ms.upd hu c6).heap (q0C (Ne.symm a2)),?_,?_,h.lo_.1,h.lo_.2.1,h.lo_.2.2.1,Nat.le_trans h.lo_.2.2.2 hsz⟩
 ·have hl:=fun x hx b hb=>(h.lts x hx b hb).1
  rcases ha with ha | ⟨n,hn,ha⟩
  ·exact q1u (i:=6) (n:=w.heap.size) h.dis rfl (.inl ha) hl
  ·exact q1u (i:=6) (n:=n) h.dis rfl (.inr ha) fun x hx b hb=>Nat.lt_of_lt_of_le (hl x hx b hb) hn
 ·intro x hx b hb;have hN:=h.bY;simp only [List.mem_cons,List.not_mem_nil,or_false,forall_eq_or_imp,forall_eq] at hN hx;obtain ⟨n0,n1,n2,n3,n4,n5,n6⟩:=hN;have hv:∀ b,v'.ownBlock=some b->N b\/w.heap.size<=b:=fun b hb=>by
   rcases ha with ha | ⟨n,hn,ha⟩
   ·rw [ha] at hb;exact .inl (n6 b hb)
   ·exact V0X
  rcases hx with e | e | e | e | e | e | e
  ·exact V10
  ·exact V0Z
  ·exact V0Y
  ·rw [e] at hb;exact .inl (n3 b hb)
  ·rw [e] at hb;exact .inl (n4 b hb)
  ·rw [e] at hb;exact .inl (n5 b hb)
  ·rw [e] at hb;exact hv b hb
end
def natV(n:Nat):Value:=.int .i64 (n:Int)
theorem index_(A:Option Addr)(c:Nat)(l:List Nat)(a:Nat)(w:World)(hA:Af w A (l.map natV))(hl:l.length<=100) :
  Calls Tryz.prog 205 #[.slice A l.length c,.int .i64 (a:Int)] w fun e w'=>∃ r:Int,e = .returned (.int .i64 r)/\l.contains a=decide (0<=r)/\Below w.heap.size w w':=by
 have HA:=Hi hA;clear hA;go_enter Tryz.func205,Tryz.ntmps205;go_wp2_with fail
 go_loopw [8] (fun vi wr=>∃ i:Nat,i<=l.length/\vi = .int .i64 (i:Int)/\Hid (Below w.heap.size w wr)/\Hid (∀ j,j < i->l[j]?≠some a)) (fun vi _=>l.length - (intOf vi).toNat)
 case atStart=>exact ⟨0,V0,rfl,Hi (Below.refl _ _),Hi fun j hj=>absurd hj V0⟩
 case round=>
  obtain ⟨i,hi,rfl,HH,HQ⟩:=hrel;by_cases hlt:i < l.length
  ·obtain ⟨p,hp⟩:∃ p,l[i]?=some p:=⟨_,List.getElem?_eq_getElem hlt⟩;have f1:(l.map natV)[i]?=some (.int .i64 (p:Int)):=VE;obtain ⟨b,o,rfl,_,hc1⟩:=(HA.out.below HH.out).at_ f1;have e1:=hc1 _ _ f1;by_cases hpa:a=p
   ·exact V3c
   ·have HN:=Hi (show ∀ j,j < i+1->l[j]?≠some a from fun j hj=>by
     by_cases h:j < i
     ·exact HQ.out j h
     ·obtain rfl:j=i:=by omega
      rw [hp];simp;omega)
    have hne:((a:Int)==(p:Int))=false:=V4;exact V3g
  ·exact V2z
theorem contains_(A:Option Addr)(c:Nat)(l:List Nat)(a:Nat)(w:World)(hA:Af w A (l.map natV))(hl:l.length<=100) :
  Calls Tryz.prog 189 #[.slice A l.length c,.int .i64 (a:Int)] w fun e w'=>e = .returned (.bool (l.contains a))/\Below w.heap.size w w':=by
 have HI:=Hi (index_ A c l a w hA hl);clear hA;generalize l.contains a=res at HI ⊢;go_enter Tryz.func189,Tryz.ntmps189;go_wp2_with fail
 refine HI.out.mono ?_;rintro e w1 ⟨r,rfl,hr,hb⟩;subst hr;have HB:=Hi hb;clear hb;go_wp2_with fail
 go_ret;exact ⟨rfl,HB.out⟩
def TellP(w:World)(r:Bool)(e:Ending)(w':World):Prop:=e = .returned (.bool r)/\Below w.heap.size w w'
def KnP(w:World)(g:Nat)(kn:Kn):Prop:=∃ kb m,w.cell? ⟨g,3,none⟩=some (.map (some kb))/\MpK w kb m kn
theorem KnP.below{w w':World}{g:Nat}{kn:Kn}(h:KnP w g kn)(hb:Below w.heap.size w w'):KnP w' g kn:=by
 obtain ⟨kb,m,h1,h2⟩:=h;exact ⟨kb,m,(hb.cell (World.block_lt_of_cell? w _ h1)).trans h1,h2.upd (Upd.of_below hb fun _=>False) id⟩
theorem is_(w:World)(g:Nat)(kn:Kn)(hk:KnP w g kn)(s:Bs)(hs:s.length<=maxLen)(A:Option Addr)(c:Nat)(l:List Nat)(hA:Af w A (l.map natV))(hl:l.length<=100) :
  Calls Tryz.prog 165 #[.pointer (some ⟨g,0,none⟩),.string ⟨s.toArray⟩,.slice A l.length c] w (TellP w (isB kn s l)):=by
 obtain ⟨kb,m,h3,hm⟩:=hk;have hrun:=hm.look (s:=s) hs;have hg:g < w.heap.size:=World.block_lt_of_cell? w _ h3;obtain ⟨w1,hw1,hb1,hX1⟩:=aS w #[.int .i64 ((kAt kn s).1:Int),.int .i64 ((kAt kn s).2:Int)] 104;have HC:=Hi (contains_ A c l (kAt kn s).1 w1 (hA.below hb1) hl);have HB1:=Hi hb1;have AP:=Hi hX1;have HW1:=Hi hw1;have hres:isB kn s l=((kn s).isSome && l.contains (kAt kn s).1):=by
  unfold isB kAt;cases kn s <;> rfl
 rw [hres];clear hA hm hw1 hb1 hX1 hres;generalize (kn s).isSome=ak at *;generalize kAt kn s=ka at *;generalize l.contains ka.1=res at *;go_enter Tryz.func165,Tryz.ntmps165;cases ak with
 | false=>
  go_wp2_with fail
  go_ret;rw [HW1.out];exact ⟨rfl,HB1.out⟩
 | true=>
  have e0:=AP.out.cell 0;go_wp2_with fail
  rw [HW1.out];refine HC.out.mono ?_;rintro e w2 ⟨rfl,hb2⟩;have HB2:=Hi (HB1.out.trans (hb2.mono HB1.out.size));clear hb2;exact V1C
section
theorem q18(w:World)(l:List Nat):∃ w1,w.alloc (.cells (l.map natV).toArray 102)=w1/\Below w.heap.size w w1/\Af w1 (some ⟨w.heap.size,0,none⟩) (l.map natV):=
 ⟨_,rfl,(Below.refl _ _).alloc (Nat.le_refl _) _,q06 _ _ _⟩
theorem TellP.trans{w w1 w':World}{r:Bool}{e:Ending}(hb:Below w.heap.size w w1)(h:TellP w1 r e w'):TellP w r e w':=⟨h.1,hb.trans (h.2.mono hb.size)⟩
theorem is_all{kn:Kn}(h:AQ kn)(s:Bs):isB kn s [0,1,2,3]=aQ kn s:=by
 unfold isB aQ;cases hk:kn s with
 | none=>rfl
 | some m=>
  have:=h s m hk;simp;omega
theorem is_word{kn:Kn}(h:AQ kn)(s:Bs):isB kn s [0,2,3]=aA kn s:=by
 unfold isB aA;cases hk:kn s with
 | none=>rfl
 | some m=>
  have:=h s m hk;have h2:(m.1 = 0\/m.1 = 2\/m.1 = 3)↔¬ m.1 = 1:=V0;simp [h2]
theorem KnP.sorts{w:World}{g:Nat}{kn:Kn}(h:KnP w g kn):AQ kn:=fun s m hm=>by
 obtain ⟨_,_,_,hp⟩:=h;exact (hp.sorts s m hm).1
theorem isNamed(w:World)(g:Nat)(kn:Kn)(hk:KnP w g kn)(s:Bs)(hs:s.length<=maxLen) :
  Calls Tryz.prog 163 #[.pointer (some ⟨g,0,none⟩),.string ⟨s.toArray⟩] w (TellP w (aQ kn s)):=by
 obtain ⟨w1,hw1,hb1,hL1⟩:=q18 w [0,1,2,3];have HC:=Hi (is_ w1 g kn (hk.below hb1) s hs _ 4 [0,1,2,3] hL1 V2);rw [is_all hk.sorts] at HC;have HB1:=Hi hb1;have HW1:=Hi hw1;clear hk hb1 hL1 hw1;generalize aQ kn s=res at *;go_enter Tryz.func163,Tryz.ntmps163;go_wp2_with fail
 rw [show w.alloc (.cells #[.int .i64 0,.int .i64 1,.int .i64 2,.int .i64 3] 102)=w1 from HW1.out];refine (show Calls Tryz.prog 165 #[.pointer (some ⟨g,0,none⟩),.string ⟨s.toArray⟩,.slice (some ⟨w.heap.size,0,none⟩) 4 4] w1 _ from HC.out).mono ?_;rintro e w2 ⟨rfl,hb2⟩;have HB2:=Hi (HB1.out.trans (hb2.mono HB1.out.size));clear hb2;go_wp2_with fail
 go_ret;exact ⟨rfl,HB2.out⟩
theorem isWord(w:World)(g:Nat)(kn:Kn)(hk:KnP w g kn)(s:Bs)(hs:s.length<=maxLen) :
  Calls Tryz.prog 170 #[.pointer (some ⟨g,0,none⟩),.string ⟨s.toArray⟩] w (TellP w (aA kn s)):=by
 obtain ⟨w1,hw1,hb1,hL1⟩:=q18 w [0,2,3];have HC:=Hi (is_ w1 g kn (hk.below hb1) s hs _ 3 [0,2,3] hL1 V2);rw [is_word hk.sorts] at HC;have HB1:=Hi hb1;have HW1:=Hi hw1;clear hk hb1 hL1 hw1;generalize aA kn s=res at *;go_enter Tryz.func170,Tryz.ntmps170;go_wp2_with fail
 rw [show w.alloc (.cells #[.int .i64 0,.int .i64 2,.int .i64 3] 102)=w1 from HW1.out];refine (show Calls Tryz.prog 165 #[.pointer (some ⟨g,0,none⟩),.string ⟨s.toArray⟩,.slice (some ⟨w.heap.size,0,none⟩) 3 3] w1 _ from HC.out).mono ?_;rintro e w2 ⟨rfl,hb2⟩;have HB2:=Hi (HB1.out.trans (hb2.mono HB1.out.size));clear hb2;go_wp2_with fail
 go_ret;exact ⟨rfl,HB2.out⟩
theorem fMn1(a p:Int)(w:World):(Instr.field 104 (.agg #[.int .i64 a,.int .i64 p]) 1).run Tryz.prog w = .ok (.int .i64 p) w:=V1
attribute [local go_sem] fMn1
theorem call_is(kn:Kn)(s:Bs)(p:Nat):aR kn s p=(isB kn s [1] && decide ((kAt kn s).2=p)):=by
 unfold aR isB kAt;cases kn s with
 | none=>rfl
 | some m=>simp
theorem isCalled(w:World)(g:Nat)(kn:Kn)(hk:KnP w g kn)(s:Bs)(hs:s.length<=maxLen)(p:Nat) :
  Calls Tryz.prog 192 #[.pointer (some ⟨g,0,none⟩),.string ⟨s.toArray⟩,.int .i64 (p:Int)] w (TellP w (aR kn s p)):=by
 obtain ⟨w1,hw1,hb1,hL1⟩:=q18 w [1];have HC:=Hi (is_ w1 g kn (hk.below hb1) s hs _ 1 [1] hL1 V2);have HK:=Hi (hk.below hb1);have HB1:=Hi hb1;have HW1:=Hi hw1;rw [call_is];clear hk hb1 hL1 hw1;generalize isB kn s [1]=res at *;go_enter Tryz.func192,Tryz.ntmps192;go_wp2_with fail
 rw [show w.alloc (.cells #[.int .i64 1] 102)=w1 from HW1.out];refine (show Calls Tryz.prog 165 #[.pointer (some ⟨g,0,none⟩),.string ⟨s.toArray⟩,.slice (some ⟨w.heap.size,0,none⟩) 1 1] w1 _ from HC.out).mono ?_;rintro e w2 ⟨rfl,hb2⟩;have HB2:=Hi (HB1.out.trans (hb2.mono HB1.out.size));obtain ⟨kb,m,h3,hm⟩:=HK.out.below hb2;clear hb2;cases res with
 | false=>
  clear h3 hm;exact V1C
 | true=>
  have hrun:=hm.look1 (s:=s) hs;clear hm;generalize kAt kn s=ka at *;obtain ⟨r2,hr2⟩:∃ r2:Bool,decide (ka.2=p)=r2:=⟨_,rfl⟩;have hq:((ka.2:Int)==(p:Int))=r2:=by
   rw [<-hr2];cases h:decide (ka.2=p) <;> simp at h ⊢ <;> omega
  have HR2:=Hi hr2;clear hr2;go_wp2_with fail
  go_ret;exact ⟨by rw [HR2.out];rfl,HB2.out⟩
theorem has_(w:World)(b n:Nat)(f:Bs->Bool)(h:MpS w b n f)(s:Bs)(hs:s.length<=maxLen) :
  Calls Tryz.prog 169 #[.map (some b),.string ⟨s.toArray⟩] w (TellP w (f s)):=by
 have hrun:=h.look (s:=s) hs;clear h;generalize f s=r at *;go_enter Tryz.func169,Tryz.ntmps169;go_wp2_with fail
 go_ret;exact ⟨rfl,(Below.refl _ _).alloc (Nat.le_refl _) _⟩
def AddP(w:World)(b n:Nat)(f:Bs->Bool)(s:Bs)(e:Ending)(w':World):Prop:=e = .returned (.bool (!f s))/\MpS w' b (n+1) (fun t=>f t || t==s)/\Upd (fun k=>k=b) w w'
theorem add_(w:World)(b n:Nat)(f:Bs->Bool)(h:MpS w b n f)(hn:n < maxLen)(s:Bs)(hs:s.length<=maxLen) :
  Calls Tryz.prog 166 #[.map (some b),.string ⟨s.toArray⟩] w (AddP w b n f s):=by
 have HS:=Hi (has_ w b n f h s hs);have HM:=Hi h;clear h;go_enter Tryz.func166,Tryz.ntmps166;go_wp2_with fail
 refine HS.out.mono ?_;rintro e w1 ⟨rfl,hb1⟩;obtain ⟨w2,hrun,h2,ht⟩:=(HM.out.upd (Upd.of_below hb1 fun _=>False) id).put (s:=s) hs hn;have H2:=Hi h2;have HU:=Hi ((Upd.of_below hb1 (fun k=>k=b)).trans (q0f (X:=fun k=>k=b) ht rfl));clear hb1 h2 ht;obtain ⟨r,hr⟩:∃ r,f s=r:=⟨_,rfl⟩;have HR:=Hi hr;rw [hr];clear hr;go_wp2_with fail
 go_ret;exact ⟨by rw [HR.out];rfl,H2.out,HU.out⟩
abbrev panW(a:Int):Ending:=.panicked [{ v:=.iface 152 (.agg #[.int .i64 a]),recovered:=false }]
def RefP(w:World)(a:Int)(b:Bool)(e:Ending)(w':World):Prop:=e=(if b=true then panW a else .returned (.tuple #[]))/\Below w.heap.size w w'
theorem refuse(w:World)(k a:Int)(s:Bs)(n:Nat)(A:Option Addr)(la cA:Nat)(B:Option Addr)(lb cB:Nat)(b:Bool) :
  Calls Tryz.prog 162 #[aO k a s n A la cA B lb cB,.bool b] w (RefP w a b):=by
 obtain ⟨w1,hw1,hb1,hX1,_⟩:=dw w (nB k a s n A la cA B lb cB);obtain ⟨⟨e0,e1,e2,e3,e4,e5⟩,z0,z1,z2,z3,z4,z5⟩:=Aa.c6 hX1;have HB1:=Hi hb1;have HW1:=Hi hw1;clear hw1 hb1 hX1;go_enter Tryz.func162,Tryz.ntmps162;cases b with
 | false=>
  go_wp2_with fail
  rw [HW1.out]
  first | go_end0 | skip
  all_goals first | exact ⟨rfl,HB1.out⟩ | exact bodyPost_ret (results_none rfl _ _ _) rfl ⟨rfl,HB1.out⟩
 | true=>
  go_wp2_with fail
  rw [HW1.out];exact ⟨rfl,rfl,HB1.out⟩
theorem q3q{w:World}{A:Option Addr}{xs:List Value}(h:Af w A xs)(m:Nat):Af w (A.map fun a=>a.add m) (xs.drop m):=fun j u hj=>by
 rw [List.getElem?_drop] at hj;obtain ⟨a,rfl,hc⟩:=h _ u hj;exact ⟨_,rfl,by rw [add_add];exact hc⟩
theorem q8p{w:World}{A:Option Addr}{xs:List Value}(h:Af w A xs):Af w (A.map fun a=>a.add 0) xs:=q3q h 0
def CutP(w:World)(A:Option Addr)(n k:Nat)(e:Ending)(w':World):Prop:=∃ A1 c1 A2 c2,e = .returned (.tuple #[.slice A1 (min k n) c1,.slice A2 (n - k) c2])/\(∀ W xs,Af W A xs->Af W A1 xs)/\(0 < n - k->∀ W xs,Af W A xs->Af W A2 (xs.drop (k * 6)))/\Below w.heap.size w w'
theorem cut_(w:World)(A:Option Addr)(n c k:Nat)(hn:n<=c)(hc:c<=maxLen)(hk:k<=2) :
  Calls Tryz.prog 167 #[.slice A n c,.int .i64 (k:Int)] w (CutP w A n k):=by
 have hcm:c<=9223372036854775807:=hc;rcases Nat.lt_or_ge n k with hlt | hge
 ·have h1:(n:Int) < (k:Int):=by omega
  have h2:(0:Int)<=(n:Int):=V0;have h3:(n:Int)<=(c:Int):=V0;have hm:min k n=n:=V0;have hd:n - k = 0:=V0;go_enter Tryz.func167,Tryz.ntmps167;go_wp2_with fail
  go_region
  go_wp2_with fail
  all_goals (
   go_ret2
   unfold CutP;rw [hm,hd];exact ⟨_,_,_,_,rfl,fun _ _ h=>h,fun h=>absurd h (Nat.lt_irrefl _),Below.drew (Below.refl _ _)⟩)
 ·have h1:¬ (n:Int) < (k:Int):=by omega
  have h2:(0:Int)<=(k:Int):=V0;have h3:(k:Int)<=(c:Int):=V0;have h4:(k:Int)<=(n:Int):=V0;have hm:min k n=k:=V0;go_enter Tryz.func167,Tryz.ntmps167;go_wp2_with fail
  go_region
  go_wp2_with fail
  all_goals (
   go_ret2
   unfold CutP;rw [hm];refine ⟨_,_,_,_,rfl,fun _ _ h=>?_,fun hd W xs hL=>?_,Below.drew (Below.refl _ _)⟩
   ·exact V42
   ·first | exact q3q hL (k * 6) | (exfalso;omega))
end
def outF(ou:List (Bs×Bool))(s:Bs):Bool:=(ou.map (·.1)).contains s
structure CK(N:Nat->Prop)(lo:Nat)(w:World)(g:Nat)(c:St)(m:Nat):Prop where
 ex:∃ vs vp vo ve kb ob,CV N lo w g vs vp vo ve kb ob c.se c.pu c.ou c.en c.kn (outF c.ou) m
 bd:c.se.length<=m/\c.pu.length<=m/\c.ou.length<=m/\c.en.length<=m
 enl:∀ s∈c.en,s.length<=maxLen
section
variable {N N' X : Nat -> Prop} {lo : Nat} {w w' : World} {g : Nat} {c : St} {m m' : Nat}
theorem CK.lt(h:CK N lo w g c m):g < w.heap.size:=by obtain ⟨_,_,_,_,_,_,h⟩:=h.ex;exact h.blk.lt
theorem CK.in_(h:CK N lo w g c m):N g/\lo<=g:=by obtain ⟨_,_,_,_,_,_,h⟩:=h.ex;exact ⟨h.bY _ V3 g rfl,h.lo_.1⟩
theorem CK.low(h:CK N lo w g c m):lo<=w.heap.size:=by obtain ⟨_,_,_,_,_,_,h⟩:=h.ex;exact h.lo_.2.2.2
theorem CK.far(h:CK N lo w g c m)(hu:Upd X w w')(hX:∀ b,N b->¬ X b):CK N lo w' g c m:=by
 obtain ⟨⟨a,b,d,e,f,i,h1⟩,h2,h3⟩:=h;exact ⟨⟨a,b,d,e,f,i,h1.far hu hX⟩,h2,h3⟩
theorem CK.below(h:CK N lo w g c m)(hb:Below w.heap.size w w'):CK N lo w' g c m:=h.far (Upd.of_below hb fun _=>False) fun _ _ h=>h
theorem CK.mono(h:CK N lo w g c m)(hN:∀ b,N b->b < w.heap.size->lo<=b->N' b):CK N' lo w g c m:=by
 obtain ⟨⟨a,b,d,e,f,i,h1⟩,h2,h3⟩:=h;exact ⟨⟨a,b,d,e,f,i,h1.mono hN⟩,h2,h3⟩
theorem CK.more(h:CK N lo w g c m)(hm:m<=m'):CK N lo w g c m':=by
 obtain ⟨⟨a,b,d,e,f,i,h1⟩,h2,h3⟩:=h;exact ⟨⟨a,b,d,e,f,i,h1.more hm⟩,V0,h3⟩
theorem CK.knp(h:CK N lo w g c m):KnP w g c.kn:=by
 obtain ⟨_,_,_,_,kb,_,h⟩:=h.ex;exact ⟨kb,m,h.blk.cell 3,h.mp⟩
end
theorem dm{N X:Nat->Prop}{w w1 w2:World}(h:Upd N w w1)(h2:Upd X w1 w2)(hX:∀ b,X b->b < w.heap.size->N b):Upd N w w2:=
 ((h.mono (Y:=fun b=>N b\/w.heap.size<=b) fun _ h=>.inl h).trans (h2.mono fun b hb=>if hs:b < w.heap.size then .inl (hX b hb hs) else .inr V0)).fresh fun b hb hs=>hb.resolve_right V0
abbrev New(N:Nat->Prop)(w:World):Nat->Prop:=fun b=>N b\/w.heap.size<=b
def StepP(N:Nat->Prop)(lo:Nat)(w:World)(g:Nat)(c:St)(m:Nat)(e:Ending)(w':World):Prop:=e = .returned (.tuple #[])/\CK (New N w) lo w' g c m/\Upd N w w'
def Ag(N:Nat->Prop)(lo:Nat)(w:World)(g:Nat)(r:Rs)(m:Nat)(e:Ending)(w':World):Prop:=
 match r with | .ok c=>StepP N lo w g c m e w' | .bad a=>e=panW a/\Upd N w w'
theorem infoS:(Tryz.prog.info? 9).map (fun i=>(i.zero,i.size,i.bytes))=some (some (.string ⟨#[]⟩),1,16):=V1
theorem infoL:(Tryz.prog.info? 36).map (fun i=>(i.zero,i.size,i.bytes))=some (some (.agg #[.string ⟨#[]⟩,.bool false,.bool false]),3,24):=V1
theorem q0b{P:Program}{w:World}{ops:Array Oper}{o:Oper}{a:Act}{K:Act->World->Prop}{Q:Exit->Act->World->Prop}{E:Prop}(hgd:o.guard=none)(s x:Operand)(t:TypeId)
  (ho:o.op = .call { callee:=.builtin .append,args:=#[s,x],argTypes:=#[t,t] })
  (base:Nat) (e:TypeId) (i:TypeInfo) (z:Value) (size bytes:Nat) (ht:P.underlying t=some (.slice e)) (hi:P.info? e=some i) (hz:i.zero=some z)
  (hsize:i.size=size) (hby:i.bytes=bytes) (hzs:z.cells.size=size) (hsz:0 < size) (v:Value) (n:Nat) (xs:List Value) (hs:a.eval s=v) (hown:w.ownsRow base e size v n xs)
  (A:Option Addr) (m d:Nat) (news:List Value) (hx:a.eval x = .slice A m d) (hl:news.length=m * size) (hL:Af w A news) (h1:∀ u∈news,u.oneCell'=true) (h63:n+m<=maxLen) (hbytes:(n+m) * bytes<=140737488355328) (hbase:base<=w.heap.size)
  (h:∀ v' w',w'.ownsRow base e size v' (n+m) (xs ++ news)->w.grownBy w' v.ownBlock->(v'.ownBlock=v.ownBlock\/v'.ownBlock=some w.heap.size)->K (a.put o.dst v') w') :
  if Region.wanted o (yielded ops a.tmps)=true then Oper.wp P o a w K Q else E:=by
 have hw:Region.wanted o (yielded ops a.tmps)=true:=by simp [Region.wanted,hgd]
 rw [if_pos hw];obtain ⟨v',w',hrun,h2,h3,h4⟩:=q2D (P:=P) base t o.type e i z size bytes ht hi hz hsize hby hzs hsz v n xs hown A m d news hl hL h1 h63 hbytes hbase;unfold Oper.wp execOp;simp only [ho,resolve,invoke,builtin,Sem.run_bind,Sem.run_pure,Result.andThen_ok,List.map_toArray,List.map_cons,List.map_nil,hs,hx,hrun];exact h v' w' h2 h3 h4
theorem q5W{m:Nat}(h:m+1<=1099511627776):m < maxLen:=V6
theorem name_(N:Nat->Prop)(lo:Nat)(w:World)(g:Nat)(c:St)(m:Nat)(hc:CK N lo w g c m)(hm:m+1<=1099511627776)(s:Bs)(hs:s.length<=maxLen)(q:Nat)(hq:q<=3) :
  Calls Tryz.prog 164 #[.pointer (some ⟨g,0,none⟩),.string ⟨s.toArray⟩,.int .i64 (q:Int)] w (StepP N lo w g { c with kn:=c.kn.put s (q,0),en:=c.en ++ [s] } (m+1)):=by
 obtain ⟨i0,hi,hz⟩:=Option.map_eq_some_iff.1 infoS;have hz0:=congrArg (·.1) hz;have hz1:=congrArg (·.2.1) hz;have hz2:=congrArg (·.2.2) hz;have HI:=Hi hi;have HZ0:=Hi hz0;have HZ1:=Hi hz1;have HZ2:=Hi hz2;clear hi hz hz0 hz1 hz2;obtain ⟨⟨vs,vp,vo,ve,kb,ob,hv⟩,hbd,henl⟩:=hc;have HENL:=Hi henl;obtain ⟨w1,hrun,hm1,ht⟩:=hv.mp.put hs (q5W hm) (q,0) hq (Nat.zero_le _);have hU1:Upd (fun b=>b=kb) w w1:=q0f ht rfl;have hv1:=hv.kn' hU1 hm1 (Nat.le_succ m);have hN1:Upd N w w1:=hU1.mono fun b hb=>hb ▸ hv.bY _ V3 kb rfl
 have e3:w.cell? ⟨g,3,none⟩=some (.map (some kb)):=hv.blk.cell 3;have e5:w1.cell? ⟨g,5,none⟩=some ve:=hv1.blk.cell 5;have hg:g < w.heap.size:=hv.blk.lt;have hg1:g < w1.heap.size:=hv1.blk.lt;have hneg:=hv1.ne.1.2.2.2.2.2;have hrun':(Instr.mapUpdate 105 (.map (some kb)) (.string ⟨s.toArray⟩) (.agg #[.int .i64 (q:Int),.int .i64 0])).run Tryz.prog w = .ok () w1:=hrun;obtain ⟨wn,hwn,hbn,-⟩:=aS w1 #[.string ⟨s.toArray⟩] 9;have hLn:Af wn (some ⟨w1.heap.size,0,none⟩) [ai s]:=by rw [<-hwn];exact q06 _ _ [ai s]
 have hoe:wn.ownsRow lo 9 1 ve c.en.length (c.en.map ai):=ae hv1.oe (Upd.of_below hbn fun _=>False) fun _ _ h=>h
 have hen:c.en.length+1<=1099511627776:=V0;have hlow:lo<=wn.heap.size:=Nat.le_trans hv1.lo_.2.2.2 hbn.size;have HV:=Hi hv1;have HN1:=Hi hN1;have HW:=Hi hwn;have HBN:=Hi hbn;have HLN:=Hi hLn;have HOE:=Hi hoe;have Az:=Hi hbd;have HNE:=Hi hneg;have HS1:=Hi hU1.size;have HLOW:=Hi hlow;clear henl hv hv1 hm1 ht hU1 hN1 hrun hwn hbn hLn hoe hbd hneg hlow;go_enter Tryz.func164,Tryz.ntmps164;go_wp2_with (at_builtin;rw [HW.out];refine q0d rfl _ _ 24 rfl lo 9 i0 (.string ⟨#[]⟩) 1 16 Tryz.underlying24 HI.out HZ0.out HZ1.out HZ2.out rfl V2 _ c.en.length _ rfl HOE.out ⟨w1.heap.size,0,none⟩ 1 1 [ai s] rfl rfl HLN.out V02 V6 V0 HLOW.out V2 ?_;intro g8 c8 w8 hE;have HE8:=Hi hE;have bU:=(Upd.of_below HBN.out (fun b=>ve.ownBlock=some b)).grown hE.grown (fun k hk _=>hk);have hb8:=HV.out.blk.upd bU HNE.out;clear hE e3 e5;obtain ⟨⟨e0,e1,e2,e3,e4,e5⟩,z0,z1,z2,z3,z4,z5⟩:=Aa.c6 hb8;have hg8:=hb8.lt;have HU8:=Hi bU;clear hb8 bU)
 have hown:w8.ownsRow lo 9 1 (.slice (some ⟨g8,0,none⟩) (c.en.length+1) c8) (c.en ++ [s]).length ((c.en ++ [s]).map ai):=by
  rw [List.length_append,List.map_append];exact HE8.out.own
 have hat:(Value.slice (some ⟨g8,0,none⟩) (c.en.length+1) c8).ownBlock=ve.ownBlock\/∃ n,w1.heap.size<=n/\(Value.slice (some ⟨g8,0,none⟩) (c.en.length+1) c8).ownBlock=some n:=by
  rcases HE8.out.at_ with h | h
  ·exact .inl h
  ·exact .inr ⟨g8,by rw [h];exact HBN.out.size,rfl⟩
 have hfin:=HV.out.ve' (en':=c.en ++ [s]) HU8.out hown hat;have Ac:=Hi (show StepP N lo w g { c with kn:=c.kn.put s (q,0),en:=c.en ++ [s] } (m+1) (.returned (.tuple #[])) (w8.setCell ⟨g,5,none⟩ (.slice (some ⟨g8,0,none⟩) (c.en.length+1) c8)) from by
  have hb:=Az.out;refine ⟨rfl,⟨⟨vs,vp,vo,_,kb,ob,hfin.mono fun b hb _ _=>hb.imp id fun h=>Nat.le_trans HS1.out h⟩,⟨Nat.le_succ_of_le hb.1,Nat.le_succ_of_le hb.2.1,Nat.le_succ_of_le hb.2.2.1,by show (c.en ++ [s]).length<=m+1;simp;omega⟩,fun t ht=>?_⟩,?_⟩
  ·rcases List.mem_append.1 ht with h | h
   ·exact HENL.out t h
   ·rw [List.mem_singleton.1 h];exact hs
  ·exact (HN1.out.trans (HU8.out.mono fun b hb=>HV.out.bY _ V3 b hb)).setCell (p:=⟨g,5,none⟩) (fun _=>HV.out.bY _ V3 g rfl) _)
 clear hown hat hfin
 first | go_end0 | skip
 all_goals first | exact Ac.out | exact bodyPost_ret (results_none rfl _ _ _) rfl Ac.out
end Nm
end Go.Proofs.YtcgibpdjfgjldaaGreatDoor
