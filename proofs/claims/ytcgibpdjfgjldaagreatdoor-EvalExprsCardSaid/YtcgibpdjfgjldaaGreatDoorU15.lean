/- DERIVED. EvNm, EvInf, CoShP, Ref, EvRw, CoSh, EvTw. By an AI agent. -/
import Derived.Test.YtcgibpdjfgjldaaGreatDoorU11
import Derived.Test.YtcgibpdjfgjldaaGreatDoorU14
import Derived.WalkSmall
import Derived.StillTactics
import Derived.Laws.Pointers
import Derived.WalkSpells
import Derived.Lib.Tables
import Derived.Lib.ItoaWalk
set_option maxRecDepth 100000
set_option maxHeartbeats 4000000
set_option linter.unusedVariables false
set_option linter.unusedSimpArgs false
namespace Go.Proofs.YtcgibpdjfgjldaaGreatDoor
namespace Ev
open Go Go.ChangeShapes Go.WideShapes Go.ChangeAt Go.RowKit Lx Args Pa Sh Go.Proofs.YtcgibpdjfgjldaaGreatDoor.Nm WMath Fl
section
attribute [local go_sem] Oper.semAt_some
/-! Names' words, as a map. -/
noncomputable def codU:Cod (BitVec 32):=Cod.of uV (fun x=>.lit (.int .u32 (x.toNat:Int))) (fun a b h=>by
  simp only [uV,Value.int.injEq,true_and] at h;exact BitVec.eq_of_toNat_eq V0) fun a b h=>by
  simp only [DataW.lit.injEq,Lit.int.injEq,true_and] at h;exact BitVec.eq_of_toNat_eq V0
abbrev MpU(w:World)(b n:Nat)(kn:Kn):Prop:=MpG codU w b n kn
theorem zU(w:World):(zeroValue 22).run Tryz.prog w = .ok (codU.enc 0) w:=by
 show _=Result.ok (uV 0) w;kernel_rfl
theorem uSc:Tryz.prog.underlying 77=some (.map 9 22):=V1
def putN(kn:Kn)(s:Bs)(x:BitVec 32):Kn:=fun t=>if t=s then some x else kn t
section
variable {w : World} {b n : Nat} {kn : Kn} {s : Bs}
theorem q7X(h:MpU w b n kn)(hs:s.length<=maxLen):(Instr.lookup 77 (.map (some b)) (.string ⟨s.toArray⟩) true).run Tryz.prog w = .ok (.tuple #[uV ((kn s).getD 0),.bool (kn s).isSome]) w:=h.look hs uSc (zU w)
theorem q6v(h:MpU w b n kn)(hs:s.length<=maxLen):(Instr.lookup 77 (.map (some b)) (.string ⟨s.toArray⟩) false).run Tryz.prog w = .ok (uV ((kn s).getD 0)) w:=h.look1 hs uSc (zU w)
theorem q6w(h:MpU w b n kn)(hs:s.length<=maxLen)(hn:n < maxLen)(m:BitVec 32) :
  ∃ w',(Instr.mapUpdate 77 (.map (some b)) (.string ⟨s.toArray⟩) (uV m)).run Tryz.prog w = .ok () w'/\MpU w' b (n+1) (putN kn s m)/\w.mapTurned w' b:=h.put hs hn uSc m
end
def knOf:List Bs->List (BitVec 32)->Kn
 | [],_=>fun _=>none
 | s :: l,ws=>putN (knOf l ws.tail) s (ws.headD 0)
def nmV(names:List Bs)(words:List (BitVec 32))(vs:List Nat):Kn:=vs.foldl (fun kn k=>putN kn (names.getD k []) (words.getD k 0)) fun _=>none
def dnl(L j:Nat):List Nat:=(List.range j).map (L - 1 - ·)
theorem q5p(L j:Nat):dnl L (j+1)=dnl L j ++ [L - 1 - j]:=by simp [dnl,List.range_succ]
theorem q5q(names:List Bs)(words:List (BitVec 32))(vs:List Nat)(k:Nat):nmV names words (vs ++ [k])=putN (nmV names words vs) (names.getD k []) (words.getD k 0):=by simp [nmV]
theorem q6x(names:List Bs)(words:List (BitVec 32)){k:Nat}{s:Bs}(h:names[k]?=some s):knOf (names.drop k) (words.drop k)=putN (knOf (names.drop (k+1)) (words.drop (k+1))) s (words.getD k 0):=by
 rw [drop_at h];show putN (knOf (names.drop (k+1)) (words.drop k).tail) s ((words.drop k).headD 0)=_;rw [List.tail_drop]
 congr 1
 rw [List.getD_eq_getElem?_getD,List.headD_eq_head?_getD,List.head?_drop]
theorem q6y(names:List Bs)(words:List (BitVec 32)):∀ j,j<=names.length->nmV names words (dnl names.length j)=knOf (names.drop (names.length - j)) (words.drop (names.length - j))
 | 0,_=>by rw [Nat.sub_zero,List.drop_length];rfl
 | j+1,h=>by
  rw [q5p,q5q,q6y names words j V0];obtain ⟨s,hs⟩:∃ s,names[names.length - 1 - j]?=some s:=⟨_,List.getElem?_eq_getElem V0⟩;have e:names.length - (j+1)=names.length - 1 - j:=V0;have e':names.length - j=names.length - 1 - j+1:=V0;rw [e,e',q6x names words hs]
  congr 1
  rw [List.getD_eq_getElem?_getD,hs];rfl
theorem nmV_all(names:List Bs)(words:List (BitVec 32)):nmV names words (dnl names.length names.length)=knOf names words:=by
 rw [q6y names words _ (Nat.le_refl _),Nat.sub_self];rfl
/-! Names, gone through backward. -/
theorem backS(A:Option Addr)(L c:Nat)(w:World):Calls Tryz.prog 74 #[.slice A L c] w fun e w'=>
  e = .returned (.func (.func 106) #[] #[.pointer (some ⟨w.heap.size,0,none⟩)])/\w'=w.alloc (.cells #[.slice A L c] 24):=by
 go_enter Tryz.func74,Tryz.ntmps74;go_wp2_with fail
 go_ret;exact ⟨rfl,rfl⟩
def KN(n0 mb:Nat)(W W':World):Prop:=∀ k,k < n0->k≠mb->W'.heap[k]?=W.heap[k]?
theorem kn_t{n0 mb:Nat}{A B C:World}(h:KN n0 mb A B)(k:KN n0 mb B C):KN n0 mb A C:=fun i h1 h2=>(k i h1 h2).trans (h i h1 h2)
theorem kn_b{mb:Nat}{w:World}(W:World)(l:Nat)(o o':Obj)(hl:w.heap.size<=l)(h:W.heap[l]?=some o)(_:o.isCells=false)(_:o.isWalk=false):KN w.heap.size mb W (W.putObj l o'):=
 fun k hk _=>World.putObj_heap_other V0
theorem q6z{n0 mb b:Nat}{W W':World}(h:KN n0 mb W W')(h1:b < n0)(h2:b≠mb)(o:Nat):W'.cell? ⟨b,o,none⟩=W.cell? ⟨b,o,none⟩:=World.cell?_of_block (h b h1 h2)
abbrev Pl(L:Nat):={ k:Nat // k < L }
def encN(names:List Bs)(x:Pl names.length):Array Value:=#[.int .i64 (x.val:Int),.string ⟨(names.getD x.val []).toArray⟩]
theorem q7Y(n l Bs0 n0 mb:Nat)(hn:1<=n)(names:List Bs)(A:Option Addr)(c:Nat)(hl:names.length<=9223372036854775807)(hB1:Bs0 < n0)(hB2:Bs0≠mb)(J Jx:List (Pl names.length)->World->Prop)(W:World)
  (hY:∀ pre x W1,J pre W1->pre.length < names.length->YieldAt Fence.wide (n - 1) Tryz.prog l (encN names x) W1 fun e W'=>
   (e = .returned (.bool true)/\J (pre ++ [x]) W'/\KN n0 mb W1 W')\/(e = .returned (.bool false)/\Jx (pre ++ [x]) W'))
  (hBc:W.cell? ⟨Bs0,0,none⟩=some (.slice A names.length c))
  (hA:∀ i s,names[i]?=some s->∃ b o,A=some ⟨b,o,none⟩/\b < n0/\b≠mb/\W.cell? ⟨b,o+i,none⟩=some (.string ⟨s.toArray⟩)) (h0:J [] W) :
  CallsIn Fence.wide n Tryz.prog 106 #[.func (.yield l) #[] #[],.pointer (some ⟨Bs0,0,none⟩)] W fun e W'=>(∃ v,e = .returned v) /\
   ((∃ ys:List (Pl names.length),ys.map (·.val)=dnl names.length names.length/\J ys W')\/(∃ pre,True/\Jx pre W')):=by
 refine callsIn_of_wp Tryz.func106 rfl trivial ?_ rfl;simp only [Tryz.ntmps106,List.size_toArray,List.length_cons,List.length_nil,Nat.reduceAdd,Nat.reduceSub,Array.replicate_succ,Array.replicate_zero,List.push_toArray,List.append_toArray,List.nil_append,List.cons_append];have HA:=Hi hA;clear hA
 gi_wp2
 gi_loopw [3] (fun vr wr=>∃ j:Nat,j<=names.length/\vr = .int .i64 ((names.length:Int) - 1 - j)/\Hid (∃ pre:List (Pl names.length),pre.map (·.val)=dnl names.length j/\J pre wr)/\Hid (KN n0 mb W wr)) (fun vr _=>(intOf vr+1).toNat)
 case atStart=>exact ⟨0,V0,V3,Hi ⟨[],rfl,h0⟩,Hi fun _ _ _=>rfl⟩
 case round=>
  obtain ⟨j,hj,rfl,HJ,HK⟩:=hrel;by_cases hlt:j < names.length
  ·obtain ⟨pre,hpre,hJ⟩:=HJ.out;have hpl:pre.length=j:=by
    have:=congrArg List.length hpre;simpa [dnl] using this
   obtain ⟨s,hs⟩:∃ s,names[names.length - 1 - j]?=some s:=⟨_,List.getElem?_eq_getElem V0⟩;obtain ⟨b,o,rfl,hb1,hb2,hce⟩:=HA.out _ _ hs;have hc0:wr.cell? ⟨Bs0,0,none⟩=some (.slice (some ⟨b,o,none⟩) names.length c):=(q6z HK.out hB1 hB2 0).trans hBc;have hc1:wr.cell? ⟨b,o+(names.length - 1 - j),none⟩=some (.string ⟨s.toArray⟩):=(q6z HK.out hb1 hb2 _).trans hce;obtain ⟨fn,tmps,assign,body,hy,hR⟩:=hY pre ⟨names.length - 1 - j,V0⟩ wr hJ V0;have hgs:names.getD (names.length - 1 - j) []=s:=by rw [List.getD_eq_getElem?_getD,hs];rfl
   unfold encN at hy;dsimp only at hy;rw [hgs] at hy;have hi:((names.length - 1 - j:Nat):Int)=(names.length:Int) - 1 - j:=V0;rw [hi] at hy;have hge:decide ((names.length:Int) - 1 - (j:Int) ≥ 0)=true:=V4;have hnat:((names.length:Int) - 1 - (j:Int)).toNat=names.length - 1 - j:=V0;have HPRE:=Hi hpre;have HJ2:=Hi hlt;clear hpre hJ hs hce hgs
   gi_wp2
   refine hR.mono ?_;rintro e W3 (⟨rfl,hJ3,hk3⟩ | ⟨rfl,hJx3⟩)
   ·gi_wp2
    go_roundw
    case rel=>exact ⟨j+1,HJ2.out,by push_cast;first | omega | (congr 1;omega),Hi ⟨_,by rw [List.map_append,HPRE.out,q5p];rfl,hJ3⟩,Hi (kn_t HK.out hk3)⟩
    case measure=>simp [intOf];omega
   ·gi_wp2
    refine bodyPost_ret (results_none rfl _ _ _) rfl ?_;exact ⟨⟨_,rfl⟩,.inr ⟨_,trivial,hJx3⟩⟩
  ·obtain rfl:j=names.length:=by omega
   have hge:decide ((names.length:Int) - 1 - (names.length:Int) ≥ 0)=false:=V4
   gi_wp2
   go_end0
   exact ⟨⟨_,rfl⟩,.inl HJ.out⟩
theorem q5O{l n:Nat}{P:Program}{ops:Array Oper}{Q:Exit->Act->World->Prop}{Z S:World->Prop}{st:List Nat}{id:Nat}{a:Act}{w:World}(hm:P.follows .mixedOrders=true)(hd:Rd.noDefer ops=true)(hQ:¬ LetsOut Q)
  (h:HT.anyT P .any ops Q Z S st ops.size (Array.replicate ops.size false) a w.drew):(Code.region id ops true).wpIn (Fence.wide.inRound l) n P Q a w:=
 wpIn_region_any hm (Rd.any_in hd hQ _ _ _ _ (HT.any_of _ _ _ _ h))
def NmI(w:World)(names:List Bs)(words:List (BitVec 32))(A2:Option Addr)(c2:Nat)(pre:List (Pl names.length))(W:World):Prop:=
 Below w.heap.size w W/\Blk W w.heap.size 44 #[.slice A2 words.length c2]/\Blk W (w.heap.size+2) 77 #[.map (some (w.heap.size+1))]/\MpU W (w.heap.size+1) pre.length (nmV names words (pre.map (·.val)))/\w.heap.size+4<=W.heap.size
theorem nmI_own(w:World)(names:List Bs)(words:List (BitVec 32))(A2:Option Addr)(c2:Nat):OwnFrom (w.heap.size+4) (NmI w names words A2 c2):=fun pre A W row ⟨h1,h2,h3,h4,h5⟩ hg hr=>
 ⟨q2i h1 hg hr V0 h1.size,q0T h2 hg hr,q0T h3 hg hr,h4.heap (hg.block _ h4.lt (fun e=>by have:=(hr _ e.symm).1;omega)),Nat.le_trans h5 hg.size⟩
theorem q4c{n0 mb:Nat}{W W':World}(h:W.mapTurned W' mb)(hmb:mb < n0):KeepsFrom n0 W W'/\KN n0 mb W W':=by
 have hg:=h.grown;refine ⟨KeepsFrom.of_grownBy hg fun j e=>by cases e;exact hmb,fun k _ h2=>?_⟩;by_cases hk:k < W.heap.size
 ·exact hg.block k hk fun e=>h2 Vu
 ·have:=q1O h;rw [Array.getElem?_eq_none V0,Array.getElem?_eq_none V0]
theorem named(w:World)(names:List Bs)(words:List (BitVec 32))(A:Option Addr)(c:Nat)(A2:Option Addr)(c2:Nat)(hA:Lies w A (names.map strV))(hn:∀ s∈names,s.length<=maxLen)(hl:names.length<=100)(hB:Lies w A2 (words.map uV))(hl2:words.length<=9223372036854775807) :
  Calls Tryz.prog 35 #[.slice A names.length c,.slice A2 words.length c2] w fun e w'=>∃ mb,e = .returned (.map (some mb))/\MpU w' mb names.length (knOf names words)/\Below w.heap.size w w':=by
 obtain ⟨w1,hw1⟩:∃ u,w.alloc (.cells #[.slice A2 words.length c2] 44)=u:=⟨_,rfl⟩;have hs1:w1.heap.size=w.heap.size+1:=by rw [<-hw1];simp
 obtain ⟨w2,hw2⟩:∃ u,w1.alloc (.map #[] 0)=u:=⟨_,rfl⟩;have hs2:w2.heap.size=w.heap.size+2:=V0o;obtain ⟨w3,hw3⟩:∃ u,w2.alloc (.cells #[.map (some (w.heap.size+1))] 77)=u:=⟨_,rfl⟩;have hs3:w3.heap.size=w.heap.size+3:=V2c;obtain ⟨w4,hw4⟩:∃ u,w3.alloc (.cells #[.slice A names.length c] 24)=u:=⟨_,rfl⟩;have hs4:w4.heap.size=w.heap.size+4:=by rw [<-hw4];simp [hs3]
 have hmk:(Instr.makeMap 77 none).run Tryz.prog w1 = .ok (.map (some (w.heap.size+1))) w2:=V1O;have hb1:Below w.heap.size w w1:=V4l;have hb2:Below w.heap.size w w2:=Ve;have hb3:Below w.heap.size w w3:=by rw [<-hw3];exact hb2.alloc hb2.size _
 have hb4:Below w.heap.size w w4:=by rw [<-hw4];exact hb3.alloc hb3.size _
 have hX1:Blk w1 w.heap.size 44 #[.slice A2 words.length c2]:=by rw [<-hw1];exact Blk.new _ _ _
 have hX3:Blk w3 (w.heap.size+2) 77 #[.map (some (w.heap.size+1))]:=by
  have:=Blk.new w2 77 #[.map (some (w.heap.size+1))];rw [hs2,hw3] at this;exact this
 have hX4:Blk w4 (w.heap.size+3) 24 #[.slice A names.length c]:=by
  have:=Blk.new w3 24 #[.slice A names.length c];rw [hs3,hw4] at this;exact this
 have hM2:MpU w2 (w.heap.size+1) 0 (fun _=>none):=by
  have:=MpG.made codU w1;rw [hs1,hw2] at this;exact this
 have hI:NmI w names words A2 c2 [] w4:=by
  refine ⟨hb4,?_,?_,?_,V0⟩
  ·rw [<-hw4,<-hw3,<-hw2];exact ((hX1.alloc _).alloc _).alloc _
  ·rw [<-hw4];exact hX3.alloc _
  ·have h3:=hM2.upd (X:=fun _=>False) (Upd.of_below (show Below w2.heap.size w2 w4 by rw [<-hw4,<-hw3];exact ((Below.refl _ _).alloc (Nat.le_refl _) _).alloc V3 _) fun _=>False) id;exact h3
 have hAt:∀ i s,names[i]?=some s->∃ b o,A=some ⟨b,o,none⟩/\b < w4.heap.size/\b≠w.heap.size+1/\w4.cell? ⟨b,o+i,none⟩=some (.string ⟨s.toArray⟩):=fun i s hs=>by
  have f1:(names.map strV)[i]?=some (.string ⟨s.toArray⟩):=by rw [List.getElem?_map,hs];rfl
  obtain ⟨b,o,hAe,hbl,hc1⟩:=hA.at_ f1;have hbl2:b < w.heap.size:=hbl;exact ⟨b,o,hAe,V0,V0,(hb4.cell (p:=⟨b,o+i,none⟩) hbl2).trans (hc1 _ _ f1)⟩
 have hmk':(Instr.makeMap 77 none).run Tryz.prog (w.alloc (.cells #[.slice A2 words.length c2] 44)) = .ok (.map (some (w.heap.size+1))) ((w.alloc (.cells #[.slice A2 words.length c2] 44)).alloc (.map #[] 0)):=by rw [hw1,hw2];exact hmk
 have HBK:=Hi (backS A names.length c w3);have HW1:=Hi hw1;have HW2:=Hi hw2;have HW3:=Hi hw3;have HW4:=Hi hw4;have HI:=Hi hI;have HX4:=Hi hX4;have HAT:=Hi hAt;have HS4:=Hi hs4;have HN:=Hi hn;have HLB:=Hi hB;have HS3:=Hi hs3;clear hw1 hw2 hw3 hw4 hmk hb1 hb2 hb3 hb4 hX1 hX3 hX4 hM2 hI hAt hA hB hn hs1 hs2;refine (callsIn_wide (n:=3)).1 ?_;refine callsIn_of_wp_marks Tryz.func35 rfl trivial ?_ rfl;simp only [Tryz.ntmps35,List.size_toArray,List.length_cons,List.length_nil,Nat.reduceAdd,Nat.reduceSub,Array.replicate_succ,Array.replicate_zero,List.push_toArray,List.append_toArray,List.nil_append,List.cons_append]
 gi_wp2_with (refine ⟨trivial,?_⟩;gi_at_call 74;rw [HW1.out,HW2.out,HW3.out];refine (callsIn_wide.2 HBK.out).mono ?_;rintro e w' ⟨rfl,hw2⟩;rw [HW4.out] at hw2;obtain rfl:w4=w':=hw2.symm)
 simp only [Nat.add_assoc,Nat.reduceAdd];refine wpIn_rangeFunc_ownG (n:=3) (w:=w4) (α:=Pl names.length) rfl V2 (gf:=106) (lb:=#[.pointer (some ⟨w.heap.size+3,0,none⟩)]) rfl trivial (enters_of Tryz.func106 V1 rfl)
  (encs:=encN names) (Kp:=KN w4.heap.size (w.heap.size+1)) (S:=fun ys=>ys.map (·.val)=dnl names.length names.length) (Sp:=fun _=>True) (N:=names.length) (w0:=w4)
  (fun l J Jx W hW _ _ hY h0=>q7Y 2 l (w.heap.size+3) w4.heap.size (w.heap.size+1) V2 names A c V0 (by have:=HS4.out;omega) V0 J Jx W hY
   ((hW.cell (p:=⟨w.heap.size+3,0,none⟩) (by have:=HS4.out;show w.heap.size+3 < w4.heap.size;omega)).trans (HX4.out.cell 0))
   (fun i s hs=>by
    obtain ⟨b,o,h1,h2,h3,h4⟩:=HAT.out i s hs;exact ⟨b,o,h1,h2,h3,(hW.cell (p:=⟨b,o+i,none⟩) h2).trans h4⟩) h0)
  kn_t (fun W l o o' h1 h2 h3 h4=>kn_b W l o o' h1 h2 h3 h4) (Below.refl _ _) (fun _=>rfl)
  (NmI w names words A2 c2) (fun _ _ _=>False) (by rw [HS4.out];exact nmI_own w names words A2 c2) (fun _ _ _ _ _ hs _ _=>hs) HI.out
  (fun x=>{ tmps:=#[.slice A names.length c,.slice A2 words.length c2,undef,.pointer (some ⟨w.heap.size,0,none⟩),.map none,.pointer (some ⟨w.heap.size+2,0,none⟩),.int .i64 (x.val:Int),.string ⟨(names.getD x.val []).toArray⟩,
    .map (some (w.heap.size+1)),.slice A names.length c,.func (.func 106) #[] #[.pointer (some ⟨w.heap.size+3,0,none⟩)],.int .i64 (x.val:Int),.string ⟨(names.getD x.val []).toArray⟩,undef,undef,undef,undef,undef,undef],defers:=[] })
  ?assign ?body ?done ?stop
 case assign=>
  intro l x W K hK;unfold encN
  gi_wp2
  exact hK
 case body=>
  rintro l pre ⟨k,hk⟩ W ⟨h1,h2,h3,h4,h5⟩ hlt;have hmx:Tryz.prog.follows .mixedOrders=true:=V1;obtain ⟨s,hs⟩:∃ s,names[k]?=some s:=⟨_,List.getElem?_eq_getElem hk⟩;have hgs:names.getD k []=s:=by rw [List.getD_eq_getElem?_getD,hs];rfl
  have hsl:s.length<=maxLen:=HN.out s (List.mem_of_getElem? hs);dsimp only;rw [hgs];have hdr:Below W.heap.size W W.drew:=Below.drew (Below.refl _ _);obtain ⟨wd,hwd⟩:∃ v,W.drew=v:=⟨_,rfl⟩;rw [hwd] at hdr;have H2:=Hi (h2.below hdr h2.lt);have H3:=Hi (h3.below hdr h3.lt);have HMd:=Hi (h4.upd (X:=fun _=>False) (Upd.of_below hdr fun _=>False) id);have HAU:=Hi (atU wd A2 c2 words ((HLB.out.below h1).below hdr) k hl2);have HFIN:=Hi (show ∀ w',wd.mapTurned w' (w.heap.size+1)->MpU w' (w.heap.size+1) (pre.length+1) (putN (nmV names words (pre.map (·.val))) s (words.getD k 0))->KeepsFrom w4.heap.size W w'/\KN w4.heap.size (w.heap.size+1) W w'/\NmI w names words A2 c2 (pre ++ [⟨k,hk⟩]) w' from fun w' ht hm=>by
   have hkf:=q4c (n0:=w4.heap.size) ht (by have:=HS4.out;omega);have hd:KeepsFrom w4.heap.size W wd/\KN w4.heap.size (w.heap.size+1) W wd:=by rw [<-hwd];exact ⟨(KeepsOthers.drew W).from _,fun _ _ _=>rfl⟩
   have hu:=q08 (X:=(·=w.heap.size+1)) ht rfl;have hsz:=q1O ht;refine ⟨hd.1.trans hkf.1,kn_t hd.2 hkf.2,(h1.trans (hdr.mono h1.size)).grown ht.grown (by rw [<-hwd];exact h1.size) (fun k e=>Va),(h2.below hdr h2.lt).upd hu V0,(h3.below hdr h3.lt).upd hu V0,?_,by rw [hsz,<-hwd];exact h5⟩;rw [List.length_append,List.map_append];show MpU w' _ (pre.length+1) (nmV names words (pre.map (·.val) ++ [k]));rw [q5q,hgs];exact hm)
  generalize words.getD k 0=x2 at HAU HFIN;clear hs hgs hdr h1 h2 h3 h4
  gi_wp2
  refine q5O (Z:=fun w'=>Upd (·=w.heap.size+1) wd w') (S:=fun _=>True) (st:=[]) hmx V1 (fun ⟨_,_,h⟩=>h) ?_;rw [hwd];clear hwd;have hZ0:Upd (·=w.heap.size+1) wd wd:=Upd.refl _ _;refine HT.k 0 rfl (by intro v hSw;have hc:=(H3.out.upd hSw V0).cell 0;simp only [List.getElem?_toArray,List.getElem?_cons_zero] at hc;clear hSw;go_simp;try with_reducible rfl) hZ0 ?_;refine HT.m 1 hZ0 ?_;refine HT.k 2 rfl (by intro v hSw;have hc:=(H2.out.upd hSw V0).cell 0;simp only [List.getElem?_toArray,List.getElem?_cons_zero] at hc;clear hSw;go_simp;try with_reducible rfl) hZ0 ?_;refine HT.m 3 hZ0 ?_;refine HT.one (i:=4) V1 rfl (fun K hK=>?_);go_simp;refine (show Calls Tryz.prog 75 #[.slice A2 words.length c2,.int .i64 (k:Int)] wd _ from HAU.out).mono ?_;rintro e w5 ⟨rfl,rfl⟩;(try dsimp only);refine hK.out _ _ hZ0 trivial ?_;clear hK K;(try simp only [HT.pS]);obtain ⟨w6,hrun,hm6,ht6⟩:=q6w HMd.out hsl (by have:=hlt;show pre.length < maxLen;have:names.length<=100:=hl;simp only [maxLen];omega) x2;refine HT.one (i:=5) V1 rfl (fun K hK=>?_);go_simp;(try dsimp only);refine hK.out _ _ (q08 ht6 rfl) trivial ?_;clear hK K;(try simp only [HT.pS]);refine HT.done V1 ?_
  gi_wp2
  exact HFIN.out _ ht6 hm6
 case done=>
  rintro D xs W hD hxs ⟨h1,h2,h3,h4,h5⟩ hK;have hlen:xs.length=names.length:=by
   have:=congrArg List.length hxs;simpa [dnl] using this
  rw [hxs,nmV_all,hlen] at h4;have f3:=h3.cell 0;simp only [List.getElem?_toArray,List.getElem?_cons_zero] at f3;have hgr:=grownBy_putObj' W D (.deferred none);have hDs:w.heap.size+4<=D:=by have:=HS4.out;omega
  have jb:=q2i h1 hgr (fun r e=>by cases e;exact ⟨hDs,_,hK,rfl⟩) V0 h1.size;have jm:=h4.heap (hgr.block _ h4.lt (fun e=>Va));have JB:=Hi jb;have JM:=Hi jm;have KD:=Hi hK;clear h1 h2 h3 h4 hgr jb jm hK hD
  gi_wp2
  refine ⟨V3,.inl ⟨_,_,rfl,run_takeDeferred KD.out,?_⟩⟩;exact ⟨_,results_tmp rfl _ _ _,⟨_,rfl,JM.out,JB.out⟩⟩
 case stop=>intro D c pre W _ _ h _;exact h.elim
end
end Ev
namespace Ev
open Go
theorem infoU:(Tryz.prog.info? 22).map (fun i=>(i.zero,i.size,i.bytes))=some (some (.int .u32 0),1,4):=V1
theorem infoS':(Tryz.prog.info? 9).map (fun i=>(i.zero,i.size,i.bytes))=some (some (.string ⟨#[]⟩),1,16):=V1
end Ev
namespace Co
open WMath Word
def nbi(k:Nat)(x:BitVec 32)(j:Nat):Bool:=if k = 0 then decide (0 < j) && x.getLsbD (j - 1) else decide (j < 31) && x.getLsbD (j+1)
def nb(k:Nat)(x:BitVec 32)(j:Nat):Bool:=if j = 31/\k = 2 then x.getLsbD 31 else if j = 31/\k = 3 then x.getLsbD 0 else nbi k x j
def cry(k:Nat)(x:BitVec 32):Bool:=if k = 0 then x.getLsbD 31 else x.getLsbD 0
theorem q0U(a:BitVec 32)(n i:Nat)(hi:i < 32):(a.rotateLeft n).getLsbD i=a.getLsbD ((i+32 - n % 32) % 32):=by
 rw [BitVec.getLsbD_rotateLeft];by_cases h:i < n % 32
 ·simp only [h,decide_true,cond_true]
  congr 1;omega
 ·simp only [h,decide_false,cond_false,hi,decide_true,Bool.true_and]
  congr 1;omega
theorem q6A(a:BitVec 32)(x y z:Nat)(h:z % 32=(x+y) % 32):(a.rotateLeft x).rotateLeft y=a.rotateLeft z:=by
 apply BitVec.eq_of_getLsbD_eq;intro i hi;rw [q0U _ _ _ hi,q0U _ _ _ V0,q0U _ _ _ hi]
 congr 1;omega
theorem q6B(k:Int)(a:BitVec 32)(x y:Nat):shV k (shV k a x) y=shV k a (x+y):=by
 unfold shV;by_cases kk:k < 0\/3 < k
 ·simp [kk]
 simp only [kk,if_false];by_cases hx:x = 0
 ·subst hx;simp
 by_cases hy:y = 0
 ·subst hy;simp
 simp only [hx,hy,if_false,show ¬ (x+y = 0) from V0];by_cases h0:k = 0
 ·simp only [h0,if_true];rw [BitVec.shiftLeft_add]
 by_cases h1:k = 1
 ·simp only [h1,if_true];apply BitVec.eq_of_toNat_eq;simp [Nat.shiftRight_add]
 by_cases h2:k = 2
 ·subst h2;simp [BitVec.sshiftRight_add]
 simp only [h0,h1,h2,if_false];exact q6A _ _ _ _ V0
theorem sh_one(k:Nat)(hk:k < 4)(x:BitVec 32)(j:Nat)(hj:j < 32):(shV k x 1).getLsbD j=nb k x j:=by
 have hr:k = 0\/k = 1\/k = 2\/k = 3:=V0;rcases hr with rfl | rfl | rfl | rfl
 ·simp only [shV,nb,nbi];simp [BitVec.getLsbD_shiftLeft];by_cases h:j = 0
  ·subst h;simp
  ·simp [h,hj];intro;omega
 ·simp only [shV,nb,nbi];simp [BitVec.getLsbD_ushiftRight];by_cases h:j = 31
  ·subst h;simp
  ·rw [Nat.add_comm];simp [show j < 31 from V0]
 ·simp only [shV,nb,nbi];simp [BitVec.getLsbD_sshiftRight];by_cases h:j = 31
  ·subst h;simp [BitVec.msb_eq_getLsbD_last]
  ·rw [Nat.add_comm];simp [show j < 31 from V0,show j+1 < 32 from V0,h,show ¬ 32<=j from V0]
 ·show ((x.rotateLeft 31).getLsbD j)=_;rw [q0U _ _ _ hj];simp only [nb,nbi];by_cases h:j = 31
  ·subst h;simp
  ·rw [show (j+32 - 31 % 32) % 32=j+1 from V0];simp [h,show j < 31 from V0]
theorem q4N(k:Nat)(hk:k < 4)(a:BitVec 32)(i j:Nat)(hj:j < 32):(shV k a (i+1)).getLsbD j=nb k (shV k a i) j:=by
 rw [<-q6B,sh_one k hk _ _ hj]
theorem bit0(x:BitVec 32):x.getLsbD 0=decide (x.toNat % 2 = 1):=by
 rw [<-BitVec.testBit_toNat,Nat.testBit_eq_decide_div_mod_eq];simp
theorem q5r(k:Nat)(hk:k < 4)(a:BitVec 32):shV k a 0=a:=by
 unfold shV;rw [if_neg V0,if_pos rfl]
theorem q2x(k:Nat)(hk:k < 4)(a:BitVec 32)(i:Nat)(c:Bool):shC k a (i+1) c=cry k (shV k a i):=by
 have hr:k = 0\/k = 1\/k = 2\/k = 3:=V0;rcases hr with rfl | rfl | rfl | rfl
 ·have e:shV (0:Nat) a i=a <<< i:=by
   exact V1I
  rw [e];show decide (a.toNat * 2 ^ (i+1) / 4294967296 % 2 = 1)=(a <<< i).getLsbD 31;have:=Nat.testBit_shiftLeft (x:=a.toNat) (i:=i+1) (j:=32);rw [Nat.testBit_eq_decide_div_mod_eq,Nat.shiftLeft_eq] at this;rw [show (4294967296:Nat) = 2 ^ 32 from rfl,this,BitVec.getLsbD_shiftLeft,<-BitVec.testBit_toNat];by_cases h:i<=31
  ·simp [show i+1<=32 from V0,show ¬ 31 < i from V0,show 32 - (i+1) = 31 - i from V0]
  ·simp [show ¬ (i+1<=32) from V0,show 31 < i from V0]
 ·have e:shV (1:Nat) a i=a >>> i:=by
   exact V1I
  rw [e];show decide (a.toNat * 2 / 2 ^ (i+1) % 2 = 1)=(a >>> i).getLsbD 0;rw [BitVec.getLsbD_ushiftRight,<-BitVec.testBit_toNat,Nat.testBit_eq_decide_div_mod_eq,Nat.add_zero,Nat.pow_succ,Nat.mul_div_mul_right _ _ V2];rfl
 ·have e:shV (2:Nat) a i=a.sshiftRight i:=by
   exact V1I
  rw [e];show decide (a.toInt * 2 / 2 ^ (i+1) % 2 = 1)=(a.sshiftRight i).getLsbD 0;rw [bit0];have h1:=q2I (a.sshiftRight i);have h2:(a.sshiftRight i).toInt=a.toInt / 2 ^ i:=by rw [BitVec.toInt_sshiftRight,Int.shiftRight_eq_div_pow];rfl
  have h3:a.toInt * 2 / 2 ^ (i+1)=a.toInt / 2 ^ i:=by
   rw [Int.pow_succ,Int.mul_ediv_mul_of_pos_left _ _ V2]
  rw [h3,<-h2];generalize (a.sshiftRight i).toInt=z at *;generalize (a.sshiftRight i).toNat=q at *;rw [decide_eq_decide];omega
 ·show (a.rotateLeft ((32 - (i+1) % 32) % 32)).msb=(shV (3:Nat) a i).getLsbD 0;have h:=q4N 3 V2 a i 31 V2;have e:shV (3:Nat) a (i+1)=a.rotateLeft ((32 - (i+1) % 32) % 32):=by unfold shV;simp
  rw [e] at h;rw [BitVec.msb_eq_getLsbD_last];rw [show (32 - 1:Nat) = 31 from rfl,h];simp [nb]
theorem q5s(k:Nat)(hk:k < 3)(a:BitVec 32)(n:Nat)(hn:32<=n):shV k a n=shV k a 32:=by
 have hr:k = 0\/k = 1\/k = 2:=V0;rcases hr with rfl | rfl | rfl
 ·have e:∀ m:Nat,32<=m->shV (0:Nat) a m = 0#32:=fun m hm=>by
   unfold shV;simp only [show ¬ m = 0 from V0,if_false];simp;exact BitVec.shiftLeft_eq_zero hm
  rw [e n hn,e 32 V2]
 ·have e:∀ m:Nat,32<=m->shV (1:Nat) a m = 0#32:=fun m hm=>by
   unfold shV;simp only [show ¬ m = 0 from V0,if_false];simp;exact BitVec.ushiftRight_eq_zero hm
  rw [e n hn,e 32 V2]
 ·have e:∀ m:Nat,32<=m->∀ j,j < 32->(shV (2:Nat) a m).getLsbD j=a.msb:=fun m hm j hj=>by
   have e0:shV (2:Nat) a m=a.sshiftRight m:=by unfold shV;simp [show ¬ m = 0 from V0]
   rw [e0,BitVec.getLsbD_sshiftRight];simp [show ¬ 32<=j from V0];intro h;omega
  apply BitVec.eq_of_getLsbD_eq;intro j hj;rw [e n hn j hj,e 32 V2 j hj]
def rby(k n:Nat):Nat:=if k = 3/\64 < n then 32+n % 32 else n
theorem q8I(k:Nat)(hk:k < 4)(a:BitVec 32)(n:Nat)(c:Bool):shV k a (min (rby k n) 70)=shV k a n/\shC k a (min (rby k n) 70) c=shC k a n c:=by
 by_cases h3:k = 3
 ·subst h3;by_cases hn:64 < n
  ·have e:min (rby 3 n) 70 = 32+n % 32:=by unfold rby;rw [if_pos ⟨rfl,hn⟩];omega
   rw [e];have e2:(32 - (32+n % 32) % 32) % 32=(32 - n % 32) % 32:=V0;constructor
   ·unfold shV;simp [show ¬ n = 0 from V0,show ¬ (32+n % 32 = 0) from V0,e2]
   ·unfold shC;simp [show ¬ n = 0 from V0,show ¬ (32+n % 32 = 0) from V0,e2]
  ·have e:min (rby 3 n) 70=n:=by unfold rby;rw [if_neg V0];omega
   rw [e];exact ⟨rfl,rfl⟩
 ·have e:rby k n=n:=by unfold rby;rw [if_neg V0]
  rw [e];by_cases hn:n<=70
  ·rw [Nat.min_eq_left hn];exact ⟨rfl,rfl⟩
  ·rw [Nat.min_eq_right V0];refine ⟨by rw [q5s k V0 a 70 V2,q5s k V0 a n V0],?_⟩;obtain ⟨m,rfl⟩:∃ m,n=m+1:=⟨n - 1,V0⟩;rw [q2x k hk,q2x k hk,q5s k V0 a 69 V2,q5s k V0 a m V0]
end Co
namespace Ref
open Go.ChangeShapes Go.WideShapes Go.ChangeAt Go.RowKit WMath Word
def bitsTo(a:BitVec 32)(k:Nat):List Bool:=(List.range k).map a.getLsbD
theorem q38(a:BitVec 32)(k:Nat):(bitsTo a k).length=k:=by simp [bitsTo]
theorem q2O(a:BitVec 32)(k:Nat):bitsTo a (k+1)=bitsTo a k ++ [a.getLsbD k]:=by
 unfold bitsTo;rw [List.range_succ,List.map_append];rfl
theorem bit_of(a:BitVec 32)(k n:Nat)(hn:n=a.toNat / 2 ^ k):((n:Int) % 2==1)=a.getLsbD k:=by
 rw [<-BitVec.testBit_toNat,Nat.testBit_eq_decide_div_mod_eq,<-hn,Bool.eq_iff_iff];simp;omega
def bvals(l:List Bool):List Value:=l.map Value.bool
theorem infoB:(Tryz.prog.info? 4).map (fun i=>(i.zero,i.size,i.bytes))=some (some (.bool false),1,1):=V1
theorem q3x{ops:Array Oper}{rest:List Oper}{o:Oper}{a:Act}{Q:Exit->Act->World->Prop}{W0 w:World}(hgd:o.guard=none)(s x:Operand)
  (ho:o.op = .call { callee:=.builtin .append,args:=#[s,x],argTypes:=#[169,169] })
  (v:Value) (k:Nat) (xs:List Bool) (hs:a.eval s=v) {base:Nat} (hown:w.ownsRow base 4 1 v k (bvals xs)) (hb:Below base W0 w) (hB:base<=W0.heap.size) (b:Bool)
  (hx:a.eval x = .slice (some ⟨w.heap.size,0,none⟩) 1 1) (hk:k < 1000)
  (h:∀ v' w',w'.ownsRow base 4 1 v' (k+1) (bvals (xs ++ [b]))->Below base W0 w'->wpList Tryz.prog ops Q rest (a.put o.dst v') w') :
  wpList Tryz.prog ops Q (o :: rest) a (w.alloc (.cells #[.bool b] 4)):=by
 obtain ⟨i0,hi,hz0,hz1,hz2⟩:=info_parts infoB;have hbs:=hb.size;refine wpList_append_own _ hgd s x 169 ho base 4 i0 (.bool false) 1 1 Tryz.underlying169 hi hz0 hz1 hz2 rfl V2 v k (bvals xs) hs (hown.alloc _) ⟨w.heap.size,0,none⟩ 1 1 [.bool b] hx rfl ?_ ?_ V8 V0 V4 ?_
 ·intro j u hj
  match j,hj with
  | 0,hj=>
   simp at hj;subst hj;show (w.alloc _).cell? ⟨w.heap.size,0+0,none⟩=_;rw [World.cell?_alloc_at _ _ _ _ rfl];rfl
  | j+1,hj=>simp at hj
 ·intro u hu;simp at hu;subst hu;rfl
 ·intro v' w' h1 h2 _;refine h v' w' (by simpa [bvals] using h1) ((hb.alloc V0 _).grown h2 V4 (fun k hk=>(hown.lt k hk).1))
theorem bitsC(a:BitVec 32)(w:World) :
  Calls Tryz.prog 111 #[u a] w fun e w'=>∃ g cap,e = .returned (.slice (some ⟨g,0,none⟩) 32 cap)/\32<=cap/\cap<=maxLen/\w.heap.size<=g/\g < w'.heap.size/\(∀ j,j < 32->w'.cell? ⟨g,j,none⟩=some (.bool (a.getLsbD j)))/\Below w.heap.size w w':=by
 have h2:=bd a;go_enter Tryz.func111,Tryz.ntmps111
 go_wp2
 go_loopw [0,3,4] (fun va v vi wr=>∃ (k n:Nat),k<=32/\vi = .int .i64 k/\va = .int .u32 n/\Hid (n=a.toNat / 2 ^ k)/\wr.ownsRow w.heap.size 4 1 v k (bvals (bitsTo a k))/\Below w.heap.size w wr) (fun _ _ vi _=>32 - (intOf vi).toNat)
 case atStart=>exact ⟨0,a.toNat,V0,rfl,rfl,Hi V3,World.ownsRow_lit w #[] 0 (Nat.le_refl _) V2 rfl,(Below.refl _ _).alloc (Nat.le_refl _) _⟩
 case round=>
  obtain ⟨k,n,hk,rfl,rfl,HN,hown,hb⟩:=hrel;have HB:=Hi hb;have HO:=Hi hown;clear hb hown h2;have hn:n < 4294967296:=by have:=HN.out;have:=Nat.div_le_self a.toNat (2 ^ k);omega
  by_cases hlt:k < 32
  ·go_wp2_with (at_builtin;refine q3x rfl _ _ rfl _ k (bitsTo a k) rfl HO.out HB.out (Nat.le_refl _) ((n:Int) % 2==1) rfl V0 ?_;intro v' w' hown' hb')
   have hbit:=bit_of a k n HN.out;rw [hbit,<-q2O] at hown'
   go_roundw
   case rel=>exact ⟨k+1,n / 2,V0,V5,rfl,Hi (by rw [HN.out,Nat.pow_succ,Nat.div_div_eq_div_mul]),hown',hb'⟩
   case measure=>simp [intOf];omega
  ·go_wp2
   have:k = 32:=V0;subst this;have hown:=HO.out;go_ret;rcases hown.2 with ⟨_,h0⟩ | ⟨g,cap,cur,rfl,hg,hgg,hcap,hmx,_,_⟩
   ·omega
   ·have hc:=fun j (hj:j < 32)=>World.ownsRow.cellAt hown j V0
    have hg2:g < wr.heap.size:=by have:=(hown.lt g rfl).2;exact this
    refine ⟨g,cap,rfl,hcap,hmx,hg,hg2,fun j hj=>?_,HB.out⟩;rw [hc j hj];simp [bvals,bitsTo,hj]
theorem half_lt(x:BitVec 32)(m n:Nat)(hn:n=x.toNat / 2 ^ (m+1)):n < 2147483648:=by
 have h1:=x.isLt;rw [Nat.pow_succ,Nat.mul_comm,<-Nat.div_div_eq_div_mul] at hn;have h2:=Nat.div_le_self (x.toNat / 2) (2 ^ m);omega
theorem q6C(x:BitVec 32)(m n:Nat)(b:Bool)(hn:n=x.toNat / 2 ^ (m+1))(hb:x.getLsbD m=b):n * 2+b.toNat=x.toNat / 2 ^ m:=by
 rw [Nat.pow_succ,<-Nat.div_div_eq_div_mul] at hn;rw [<-BitVec.testBit_toNat,Nat.testBit_eq_decide_div_mod_eq] at hb;subst hb;generalize x.toNat / 2 ^ m=q at *;by_cases h:q % 2 = 1 <;> simp [h] <;> omega
theorem wordC(x:BitVec 32)(g cap:Nat)(w:World)(hcap:32<=cap)(hc:∀ j,j < 32->w.cell? ⟨g,j,none⟩=some (.bool (x.getLsbD j))) :
  Calls Tryz.prog 112 #[.slice (some ⟨g,0,none⟩) 32 cap] w fun e w'=>e = .returned (u x)/\w=w':=by
 have HC:=Hi hc;clear hc;go_enter Tryz.func112,Tryz.ntmps112
 go_wp2
 go_loop [3,4] (fun va vi=>∃ (k n:Nat),k<=32/\vi = .int .i64 ((k:Int) - 1)/\va = .int .u32 n/\Hid (n=x.toNat / 2 ^ k)) (fun _ vi=>(intOf vi+1).toNat)
 case atStart=>exact ⟨32,0,V0,rfl,rfl,Hi (by have:=x.isLt;rw [Nat.div_eq_of_lt V0])⟩
 case round=>
  obtain ⟨k,n,hk,rfl,rfl,HN⟩:=hrel;cases k with
  | zero=>
   go_wp2
   go_ret;have h:=HN.out;rw [Nat.pow_zero,Nat.div_one] at h;exact ⟨by rw [h];rfl,rfl⟩
  | succ m=>
   have hcell:=HC.out m V0;have hn:n < 2147483648:=half_lt x m n HN.out;cases hbit:x.getLsbD m
   all_goals
    rw [hbit] at hcell;have hst:=q6C x m n _ HN.out hbit;have HS:=Hi hst;have HBT:=Hi hbit;clear hst hbit
    go_wp2
    go_round
    case rel=>exact ⟨m,_,V0,V5,rfl,Hi (by rw [<-HS.out];rfl)⟩
    case measure=>simp [intOf]
end Ref
namespace Ref
open Go.ChangeShapes Go.WideShapes Go.ChangeAt Go.RowKit WMath Word Co
section
theorem q6D(l:List Bool):∀ x∈bvals l,x.oneCell'=true:=by
 intro x hx;obtain ⟨y,_,rfl⟩:=List.mem_map.1 hx;rfl
theorem q6E(a:BitVec 32)(k:Nat):(a.rotateLeft (k+1)).getLsbD 0=(a.rotateLeft k).getLsbD 31:=by
 rw [q0U _ _ _ V2,q0U _ _ _ V2]
 congr 1;omega
theorem q6F(a:BitVec 32)(k j:Nat)(hj:j < 31):(a.rotateLeft (k+1)).getLsbD (j+1)=(a.rotateLeft k).getLsbD j:=by
 rw [q0U _ _ _ V0,q0U _ _ _ V0]
 congr 1;omega
theorem q7Z(a:BitVec 32)(j:Nat)(hj:j < 32):(a.rotateLeft 0).getLsbD j=a.getLsbD j:=by
 rw [q0U _ _ _ hj]
 congr 1;omega
theorem rrotC(a:BitVec 32)(n:Nat)(hn:n < 4294967296)(w:World):Calls Tryz.prog 90 #[u a,.int .u32 n] w fun e w'=>e = .returned (u (a.rotateLeft n))/\Below w.heap.size w w':=by
 obtain ⟨i0,hi0,hz0,hz1,hz2⟩:=info_parts infoB;have hr:=q6A a (n % 32) 0 n V0;go_enter Tryz.func90,Tryz.ntmps90;go_wp2_with fail
 refine (bitsC a _).mono ?_;rintro e w2 ⟨g2,cap2,rfl,hcap2,hmx2,hg2,hs2,hc2,hb2⟩;have HC2:=Hi hc2;have HB2:=Hi hb2;have HR:=Hi hr;clear hc2 hb2 hr
 go_wp2
 go_loopw [5,6] (fun v vi wr=>∃ (k g cap:Nat),k<=n % 32/\vi = .int .u32 k/\v = .slice (some ⟨g,0,none⟩) 32 cap/\32<=cap/\g < wr.heap.size/\Hid (∀ j,j < 32->wr.cell? ⟨g,j,none⟩=some (.bool ((a.rotateLeft k).getLsbD j)))/\Below w.heap.size w wr) (fun _ vi _=>32 - (intOf vi).toNat)
 case atStart=>exact ⟨0,g2,cap2,V0,rfl,rfl,hcap2,hs2,Hi (fun j hj=>by rw [q7Z a j hj];exact HC2.out j hj),HB2.out⟩
 case round=>
  obtain ⟨k,g,cap,hk,rfl,rfl,hcap,hg,HC,hb⟩:=hrel;have HB:=Hi hb;have hsz:=hb.size;clear hb HC2 HB2;by_cases hlt:k < n % 32
  ·have q:=HC.out 31 V2;have z0:=q6E a k;generalize (a.rotateLeft k).getLsbD 31=t at q z0;have Z0:=Hi z0;clear z0;have hn31:Hid (∀ (o:Obj) (j:Nat) (x:Value),(bvals (bitsTo (a.rotateLeft k) 31))[j]?=some x->(wr.alloc o).cell? ((⟨g,0,none⟩:Addr).add j)=some x):=Hi (fun o j x hx=>by
    have hj:j < 31:=by
     have:=(List.getElem?_eq_some_iff.1 hx).1;simpa [bvals,q38] using this
    have e:(⟨g,0,none⟩:Addr).add j=⟨g,j,none⟩:=by unfold Addr.add;split <;> simp_all
    rw [e,World.cell?_alloc_lt wr o ⟨_,_,_⟩ hg,HC.out j V0,<-hx];simp [bvals,bitsTo,hj])
   have ag:(Value.slice (some ⟨wr.heap.size,0,none⟩) 1 1).ownBlock≠some g:=by intro h;have h2:wr.heap.size=g:=Option.some.inj h;omega
   have c31:(31:Int)<=(cap:Int):=V0;have c32:(0:Int)<=(cap:Int):=V0;go_wp2_with fail
   go_region_held3 (fun w'=>w'.cell? ⟨g,31,none⟩=some (.bool t))
    (first
     | go_keep
     | (rw [hgrow.cell_far _ V4 (Ne.symm ag)];assumption))
    ((refine step_append_lies _ V6 _ _ _ V6 wr.heap.size 4 i0 _ 1 1 Tryz.underlying169 hi0 hz0 hz1 hz2 rfl V0 (.slice (some ⟨wr.heap.size,0,none⟩) 1 1) 1 [.bool t] V6 ((World.ownsRow_lit wr #[.bool t] 1 (Nat.le_refl _) V2 rfl).drew)
       ⟨g,0,none⟩ 31 cap (bvals (bitsTo (a.rotateLeft k) 31)) V6 (by simp [bvals,q38]) (by exact hn31.out _) (q6D _) V0 V2 V0 V3 (wr.heap.size+1) V3 ?_;intro gg cap' w1 hown1 hgrow hat hlt1))
   go_wp2_with fail
   go_roundw
   case rel=>
    have hbel:Below w.heap.size w w1:=((HB.out.alloc hsz _).drew.grown (row:=some wr.heap.size) hgrow V4 (fun q hq=>by have:=Option.some.inj hq;omega));refine ⟨k+1,gg,cap',V0,V5,rfl,?_,hlt1,Hi (fun j hj=>?_),hbel⟩
    ·rcases hown1.2 with ⟨h0,_⟩ | ⟨g9,cap9,cur,h9,_,_,h99,_,_,_⟩
     ·cases h0
     ·cases h9;exact h99
    ·rw [World.ownsRow.cellAt hown1 j V0];cases j with
     | zero=>rw [Z0.out];rfl
     | succ j=>
      rw [q6F a k j V0];have hj':j < 31:=V0;simp [bvals,bitsTo,hj']
   case measure=>simp [intOf];omega
  ·go_wp2_with fail
   have:k=n % 32:=V0;have hR:=HR.out;have hw:=wordC (a.rotateLeft (n % 32)) g cap wr hcap (fun j hj=>by rw [<-this];exact HC.out j hj);have e2:a.rotateLeft (n % 32)=a.rotateLeft n:=by
    apply BitVec.eq_of_getLsbD_eq;intro i hi;rw [q0U _ _ _ hi,q0U _ _ _ hi,Nat.mod_mod]
   rw [e2] at hw;clear e2 hR HR;refine hw.mono ?_;rintro e w' ⟨rfl,rfl⟩;go_wp2_with fail
   exact V3H
theorem sel_bit(m a b:BitVec 32)(k:Nat):(selW m a b).getLsbD k=if m.getLsbD k then a.getLsbD k else (b.getLsbD k && decide (k < 32)):=by
 simp only [selW,BitVec.getLsbD_or,BitVec.getLsbD_and,BitVec.getLsbD_not];cases m.getLsbD k <;> cases a.getLsbD k <;> cases b.getLsbD k <;> simp
theorem rselC(m a b:BitVec 32)(w:World):Calls Tryz.prog 83 #[u m,u a,u b] w fun e w'=>e = .returned (u (selW m a b))/\Below w.heap.size w w':=by
 go_enter Tryz.func83,Tryz.ntmps83;go_wp2_with fail
 refine (bitsC m _).mono ?_;rintro e w1 ⟨g1,cap1,rfl,hcap1,hmx1,hg1,hs1,hc1,hb1⟩;go_wp2_with fail
 refine (bitsC a _).mono ?_;rintro e w2 ⟨g2,cap2,rfl,hcap2,hmx2,hg2,hs2,hc2,hb2⟩;go_wp2_with fail
 refine (bitsC b _).mono ?_;rintro e w3 ⟨g3,cap3,rfl,hcap3,hmx3,hg3,hs3,hc3,hb3⟩;have C1:∀ j,j < 32->w3.cell? ⟨g1,j,none⟩=some (.bool (m.getLsbD j)):=fun j hj=>by rw [hb3.cell (p:=⟨_,_,_⟩) (Nat.lt_of_lt_of_le hs1 hb2.size),hb2.cell (p:=⟨_,_,_⟩) hs1];exact hc1 j hj
 have C2:∀ j,j < 32->w3.cell? ⟨g2,j,none⟩=some (.bool (a.getLsbD j)):=fun j hj=>by rw [hb3.cell (p:=⟨_,_,_⟩) hs2];exact hc2 j hj
 have B3:Below w.heap.size w w3:=(hb1.trans (hb2.mono hb1.size)).trans (hb3.mono (Nat.le_trans hb1.size hb2.size));have S1:g1 < w3.heap.size:=by have:=hb2.size;have:=hb3.size;omega
 have S2:g2 < w3.heap.size:=by have:=hb3.size;omega
 have HC1:=Hi C1;have HC2:=Hi C2;have HC3:=Hi hc3;have HB3:=Hi B3;clear C1 C2 hc1 hc2 hc3 hb1 hb2 hb3 B3 hs1 hs2 hg1 hg2 hg3
 go_wp2
 go_loopw [10,11] (fun v vi wr=>∃ (k:Nat),k<=32/\vi = .int .i64 k/\wr.ownsRow w3.heap.size 4 1 v k (bvals (bitsTo (selW m a b) k))/\Below w3.heap.size w3 wr) (fun _ vi _=>32 - (intOf vi).toNat)
 case atStart=>exact ⟨0,V0,rfl,World.ownsRow_lit w3 #[] 0 (Nat.le_refl _) V2 rfl,(Below.refl _ _).alloc (Nat.le_refl _) _⟩
 case round=>
  obtain ⟨k,hk,rfl,hown,hb⟩:=hrel;have HB:=Hi hb;have HO:=Hi hown;clear hb hown;by_cases hlt:k < 32
  ·have q1:wr.cell? ⟨g1,k,none⟩=some (.bool (m.getLsbD k)):=by rw [HB.out.cell (p:=⟨_,_,_⟩) S1];exact HC1.out k hlt
   have q2:wr.cell? ⟨g2,k,none⟩=some (.bool (a.getLsbD k)):=by rw [HB.out.cell (p:=⟨_,_,_⟩) S2];exact HC2.out k hlt
   have q3:wr.cell? ⟨g3,k,none⟩=some (.bool (b.getLsbD k)):=by rw [HB.out.cell (p:=⟨_,_,_⟩) hs3];exact HC3.out k hlt
   have hst:=sel_bit m a b k;have hsn:=q2O (selW m a b) k;rw [hst] at hsn;generalize a.getLsbD k=ak at q2 hsn;generalize b.getLsbD k=bk at q3 hsn;clear hst;generalize m.getLsbD k=mk at q1 hsn;have HSN:Hid (bitsTo (selW m a b) (k+1)=bitsTo (selW m a b) k ++ [if mk=true then ak else bk && decide (k < 32)]):=Hi hsn;clear hsn;cases mk
   ·go_wp2_with (at_builtin;refine q3x rfl _ _ rfl _ k (bitsTo (selW m a b) k) rfl HO.out HB.out (Nat.le_refl _) bk rfl V0 ?_;intro v' w' hown' hb')
    go_roundw
    case rel=>exact ⟨k+1,V0,V5,by rw [HSN.out];simpa [hlt] using hown',hb'⟩
    case measure=>simp [intOf];omega
   ·go_wp2_with (at_builtin;refine q3x rfl _ _ rfl _ k (bitsTo (selW m a b) k) rfl HO.out HB.out (Nat.le_refl _) ak rfl V0 ?_;intro v' w' hown' hb')
    go_roundw
    case rel=>exact ⟨k+1,V0,V5,by rw [HSN.out];simpa using hown',hb'⟩
    case measure=>simp [intOf];omega
  ·go_wp2_with fail
   have:k = 32:=V0;subst this;have hown:=HO.out;rcases hown.2 with ⟨_,h0⟩ | ⟨g,cap,cur,rfl,hg,hgg,hcap,hmx,_,_⟩
   ·omega
   ·have hc:=fun j (hj:j < 32)=>World.ownsRow.cellAt hown j V0
    refine (wordC (selW m a b) g cap _ hcap (fun j hj=>by rw [hc j hj];simp [bvals,bitsTo,hj])).mono ?_;rintro e w' ⟨rfl,rfl⟩
    go_wp2
    go_ret;exact ⟨rfl,HB3.out.trans (HB.out.mono HB3.out.size)⟩
end
end Ref
namespace Co
open Go.ChangeShapes Go.WideShapes Go.ChangeAt Go.RowKit WMath Word Ref Args
def nowA(f:Nat->Bool):Array Value:=((List.range 32).map fun q=>Value.bool (f q)).toArray
theorem q2y(f:Nat->Bool)(q:Nat)(hq:q < 32):(nowA f)[q]?=some (.bool (f q)):=by
 unfold nowA;simp [hq]
theorem q80(f:Nat->Bool)(j:Nat)(v:Bool):(nowA f).setIfInBounds j (.bool v)=nowA fun q=>if q=j then v else f q:=by
 apply Array.ext_getElem?;intro i;rw [Array.getElem?_setIfInBounds];by_cases hi:i < 32
 ·rw [q2y _ _ hi,q2y _ _ hi];by_cases h:j=i
  ·subst h;simp [nowA,hi]
  ·simp [h,Ne.symm h]
 ·have e:∀ f:Nat->Bool,(nowA f)[i]?=none:=fun f=>by simp [nowA];omega
  rw [e,e];by_cases h:j=i
  ·subst h;simp [nowA,hi]
  ·simp [h]
theorem q2j{f g:Nat->Bool}(h:∀ q,q < 32->f q=g q):nowA f=nowA g:=by
 unfold nowA
 congr 1
 exact List.map_congr_left fun q hq=>by rw [h q (List.mem_range.1 hq)]
structure Nw(wr:World)(g k:Nat)(x:BitVec 32)(j:Nat)(wx:World):Prop where
 blk:Blk wx wr.heap.size 4 (nowA fun q=>decide (q < j) && nbi k x q)
 old:∀ q,q < 32->wx.cell? ⟨g,q,none⟩=some (.bool (x.getLsbD q))
 ext:Below wr.heap.size wr wx
 lt:g < wr.heap.size
theorem Nw.stay{wr wx:World}{g k j:Nat}{x:BitVec 32}(h:Nw wr g k x j wx)(hj:nbi k x j=false):Nw wr g k x (j+1) wx:=by
 refine ⟨?_,h.old,h.ext,h.lt⟩;have:=h.blk
 rwa [q2j (g:=fun q=>decide (q < j+1) && nbi k x q) fun q _=>?_] at this
 by_cases e:q=j
 ·subst e;simp [hj]
 ·congr 1;simp;omega
theorem Nw.next{wr wx:World}{g k j:Nat}{x:BitVec 32}(h:Nw wr g k x j wx)(b:Bool)(hb:nbi k x j=b):Nw wr g k x (j+1) (wx.setCell ⟨wr.heap.size,j,none⟩ (.bool b)):=by
 refine ⟨?_,fun q hq=>?_,h.ext.setCell (p:=⟨wr.heap.size,j,none⟩) (Nat.le_refl _) _,h.lt⟩
 ·have:=h.blk.set j (.bool b);rw [q80] at this
  rwa [q2j (g:=fun q=>decide (q < j+1) && nbi k x q) fun q _=>?_] at this
  by_cases e:q=j
  ·subst e;simp [hb]
  ·simp only [e,if_false];congr 1;simp;omega
 ·have hne:g≠wr.heap.size:=by have:=h.lt;omega
  rw [<-h.old q hq];exact World.cell?_of_block (Below.heap_setCell wx _ _ g hne)
theorem Nw.fin{wr wx:World}{g k:Nat}{x y:BitVec 32}(h:Nw wr g k x 32 wx)(hk:k < 2)(hy:∀ j,j < 32->y.getLsbD j=nb k x j):∀ j,j < 32->wx.cell? ⟨wr.heap.size,j,none⟩=some (.bool (y.getLsbD j)):=fun j hj=>by
 rw [h.blk.cell,q2y _ _ hj,hy j hj];simp [nb,hj,show ¬ (j = 31/\k = 2) from V0,show ¬ (j = 31/\k = 3) from V0]
theorem mk32:∀ w:World,(Instr.makeSlice 169 (.int .i64 32) (.int .i64 32)).run Tryz.prog w = .ok (.slice (some ⟨w.heap.size,0,none⟩) 32 32) (w.alloc (.cells (nowA fun _=>false) 4)):=fun _=>V1
theorem Nw.start{wr:World}{g k:Nat}{x:BitVec 32}(hg:g < wr.heap.size)(hx:∀ q,q < 32->wr.cell? ⟨g,q,none⟩=some (.bool (x.getLsbD q))):Nw wr g k x 0 (wr.alloc (.cells (nowA fun _=>false) 4)):=by
 refine ⟨?_,fun q hq=>?_,(Below.refl _ _).alloc (Nat.le_refl _) _,hg⟩
 ·rw [q2j (g:=fun _=>false) fun q _=>V3];exact Blk.new wr _ _
 ·rw [<-hx q hq];exact World.cell?_of_block (Below.heap_alloc wr _ g hg)
theorem Nw.cellG{wr wx:World}{g k j:Nat}{x:BitVec 32}(h:Nw wr g k x j wx)(q:Nat)(hq:q < 32):∃ b,wx.cell? ⟨wr.heap.size,q,none⟩=some (.bool b):=⟨_,by rw [h.blk.cell,q2y _ _ hq]⟩
def ShEnd(v:BitVec 32)(c:Bool)(w:World)(e:Ending)(w':World):Prop:=e = .returned (.tuple #[u v,.bool c])/\Below w.heap.size w w'
theorem rsh0(a:BitVec 32)(n:Nat)(hn:n < 4294967296)(c:Bool)(w:World) :
  Calls Tryz.prog 89 #[.int .i64 0,u a,.int .u32 n,.bool c] w (ShEnd (shV 0 a n) (shC 0 a n c) w):=by
 obtain ⟨e1,e2⟩:=q8I 0 V2 a n c;have e1':shV (0:Int) a (min (rby 0 n) 70)=shV (0:Int) a n:=e1;have e2':shC (0:Int) a (min (rby 0 n) 70) c=shC (0:Int) a n c:=e2;rw [<-e1',<-e2'];have hz:=q5r 0 V2 a;have hs0:shC 0 a 0 c=c:=by unfold shC;rw [if_neg V0,if_pos rfl]
 have hS:=q4N 0 V2 a;have hC:=q2x 0 V2 a;have hmk:=mk32;have HZ:=Hi hz;have HS0:=Hi hs0;have HS:=Hi hS;have HC:=Hi hC;clear e1 e2 e1' e2' hz hs0 hS hC;have hrb:rby 0 n=n:=by unfold rby;rw [if_neg V0]
 rw [hrb];have HN:∀ i:Nat,i < min (n) 70↔i < 70/\i < n:=fun i=>V0
 clear hrb;go_enter Tryz.func89,Tryz.ntmps89;go_wp2_with fail
 refine (bitsC a _).mono ?_;rintro e w1 ⟨g,cap,rfl,hcap,hmx,hg,hs,hc,hb⟩;have HC0:=Hi hc;have HB0:=Hi hb;clear hc hb;go_wp2_with fail
 go_loopw [3,10,11] (fun vc vb vi wr=>∃ (i g cap:Nat),i<=min (n) 70/\vi = .int .u32 i/\vc = .bool (shC 0 a i c)/\vb = .slice (some ⟨g,0,none⟩) 32 cap/\32<=cap/\cap<=maxLen/\g < wr.heap.size/\Hid (∀ j,j < 32->wr.cell? ⟨g,j,none⟩=some (.bool ((shV 0 a i).getLsbD j)))/\Hid (Below w.heap.size w wr)) (fun _ _ vi _=>70 - (intOf vi).toNat)
 case atStart=>exact ⟨0,g,cap,V0,rfl,congrArg Value.bool HS0.out.symm,rfl,hcap,hmx,hs,Hi fun j hj=>by rw [show shV 0 a 0=a from HZ.out];exact HC0.out j hj,HB0⟩
 case round=>
  clear hcap hmx hs HC0 HB0 hg;obtain ⟨i,g,cap,hi,rfl,rfl,rfl,hcap,hmx,hg,HX,HB⟩:=hrel;by_cases hlt:i < min (n) 70
  ·have hS:=HS.out i;have hC:=HC.out i c;have hXX:=HX.out;have hi70:=(HN i).1 hlt;have hiN:(i:Int) < (n:Int):=V0;have hi7:(i:Int) < 70:=V0;have hx:∃ x:BitVec 32,shV 0 a i=x:=⟨_,rfl⟩;obtain ⟨x,hx⟩:=hx;rw [show shV (0:Nat) a i=x from hx] at hS hC;rw [hx] at hXX;have x0:=hXX 0 V2;have x31:=hXX 31 V2;have HS1:=Hi hS;have HC1:=Hi hC;have HX1:=Hi (Nw.start (k:=0) hg hXX);have HLT:=Hi hlt;clear hS hC hXX hx HX hi hi70 hlt HN;go_wp2_with fail
   generalize wr=wo at *
   go_loopw [13] (fun vj wr=>∃ j:Nat,j<=32/\vj = .int .i64 j/\Hid (Nw wo g 0 x j wr)) (fun vj _=>32 - (intOf vj).toNat)
   case atStart=>exact ⟨0,V0,rfl,HX1⟩
   case round=>
    clear HX1 x0 x31;obtain ⟨j,hj,rfl,HW⟩:=hrel;by_cases hj32:j < 32
    ·obtain ⟨b0,hG⟩:=HW.out.cellG j hj32;have hF:=HW.out.blk.frozen j;rcases Nat.eq_zero_or_pos j with rfl | hpos
     ·go_wp2_with fail
      go_roundw
      case rel=>exact ⟨1,V0,rfl,Hi (HW.out.stay (by simp [nbi]))⟩
      case measure=>simp [intOf]
     ·obtain ⟨m,hm⟩:∃ m,m+1=j:=⟨j - 1,V0⟩;have hO:=HW.out.old m V0;have hnb:nbi 0 x j=x.getLsbD m:=by unfold nbi;subst hm;simp
      have hjm:((j:Int) - 1).toNat=m:=V0;have hj1:(1:Int)<=(j:Int):=V0;have hj2:(0:Int) < (j:Int):=V0;have hj3:(j:Int) < 32:=V0;have hj4:(j:Int) - 1 < 32:=V0;generalize x.getLsbD m=b at *;have HM:=Hi hm;have HNB:=Hi hnb;clear hm hnb hpos;exact V3t
    ·obtain rfl:j = 32:=by omega
     have x0:=HW.out.old 0 V2;have x31:=HW.out.old 31 V2;obtain ⟨b0,hG⟩:=HW.out.cellG 31 V2;have hF:=HW.out.blk.frozen 31;have hsz:=HW.out.ext.size;have hbits:=HW.out;have HBB:=Hi (HB.out.trans (HW.out.ext.mono HB.out.size));have HFIN:=Hi (HW.out.fin V2 (HS1.out));have hlt2:wo.heap.size < wr.heap.size:=HW.out.blk.lt;have hcc:shC 0 a (i+1) c=x.getLsbD 31:=HC1.out;exact V2N
  ·have hiN:min (n) 70=i:=by omega
   have hi2:(i = 70/\70 < n)\/(i<=70/\i=n):=V0;obtain ⟨y,hy⟩:∃ y,shV 0 a i=y:=⟨_,rfl⟩;obtain ⟨cc,hcc⟩:∃ cc,shC 0 a i c=cc:=⟨_,rfl⟩;exact V2o
theorem rsh1(a:BitVec 32)(n:Nat)(hn:n < 4294967296)(c:Bool)(w:World) :
  Calls Tryz.prog 89 #[.int .i64 1,u a,.int .u32 n,.bool c] w (ShEnd (shV 1 a n) (shC 1 a n c) w):=by
 obtain ⟨e1,e2⟩:=q8I 1 V2 a n c;have e1':shV (1:Int) a (min (rby 1 n) 70)=shV (1:Int) a n:=e1;have e2':shC (1:Int) a (min (rby 1 n) 70) c=shC (1:Int) a n c:=e2;rw [<-e1',<-e2'];have hz:=q5r 1 V2 a;have hs0:shC 1 a 0 c=c:=by unfold shC;rw [if_neg V0,if_pos rfl]
 have hS:=q4N 1 V2 a;have hC:=q2x 1 V2 a;have hmk:=mk32;have HZ:=Hi hz;have HS0:=Hi hs0;have HS:=Hi hS;have HC:=Hi hC;clear e1 e2 e1' e2' hz hs0 hS hC;have hrb:rby 1 n=n:=by unfold rby;rw [if_neg V0]
 rw [hrb];have HN:∀ i:Nat,i < min (n) 70↔i < 70/\i < n:=fun i=>V0
 clear hrb;go_enter Tryz.func89,Tryz.ntmps89;go_wp2_with fail
 refine (bitsC a _).mono ?_;rintro e w1 ⟨g,cap,rfl,hcap,hmx,hg,hs,hc,hb⟩;have HC0:=Hi hc;have HB0:=Hi hb;clear hc hb;go_wp2_with fail
 go_loopw [3,10,11] (fun vc vb vi wr=>∃ (i g cap:Nat),i<=min (n) 70/\vi = .int .u32 i/\vc = .bool (shC 1 a i c)/\vb = .slice (some ⟨g,0,none⟩) 32 cap/\32<=cap/\cap<=maxLen/\g < wr.heap.size/\Hid (∀ j,j < 32->wr.cell? ⟨g,j,none⟩=some (.bool ((shV 1 a i).getLsbD j)))/\Hid (Below w.heap.size w wr)) (fun _ _ vi _=>70 - (intOf vi).toNat)
 case atStart=>exact ⟨0,g,cap,V0,rfl,congrArg Value.bool HS0.out.symm,rfl,hcap,hmx,hs,Hi fun j hj=>by rw [show shV 1 a 0=a from HZ.out];exact HC0.out j hj,HB0⟩
 case round=>
  clear hcap hmx hs HC0 HB0 hg;obtain ⟨i,g,cap,hi,rfl,rfl,rfl,hcap,hmx,hg,HX,HB⟩:=hrel;by_cases hlt:i < min (n) 70
  ·have hS:=HS.out i;have hC:=HC.out i c;have hXX:=HX.out;have hi70:=(HN i).1 hlt;have hiN:(i:Int) < (n:Int):=V0;have hi7:(i:Int) < 70:=V0;have hx:∃ x:BitVec 32,shV 1 a i=x:=⟨_,rfl⟩;obtain ⟨x,hx⟩:=hx;rw [show shV (1:Nat) a i=x from hx] at hS hC;rw [hx] at hXX;have x0:=hXX 0 V2;have x31:=hXX 31 V2;have HS1:=Hi hS;have HC1:=Hi hC;have HX1:=Hi (Nw.start (k:=1) hg hXX);have HLT:=Hi hlt;clear hS hC hXX hx HX hi hi70 hlt HN;go_wp2_with fail
   generalize wr=wo at *
   go_loopw [13] (fun vj wr=>∃ j:Nat,j<=32/\vj = .int .i64 j/\Hid (Nw wo g 1 x j wr)) (fun vj _=>32 - (intOf vj).toNat)
   case atStart=>exact ⟨0,V0,rfl,HX1⟩
   case round=>
    clear HX1 x0 x31;obtain ⟨j,hj,rfl,HW⟩:=hrel;by_cases hj32:j < 32
    ·obtain ⟨b0,hG⟩:=HW.out.cellG j hj32;have hF:=HW.out.blk.frozen j;by_cases hj31:j < 31
     ·have hO:=HW.out.old (j+1) V0;have hnb:nbi 1 x j=x.getLsbD (j+1):=by unfold nbi;simp [hj31]
      have hj3:(j:Int) < 31:=V0;generalize x.getLsbD (j+1)=b at *;have HNB:=Hi hnb;clear hnb;exact V3t
     ·obtain rfl:j = 31:=by omega
      go_wp2_with fail
      go_roundw
      case rel=>exact ⟨32,V0,rfl,Hi (HW.out.stay (by simp [nbi]))⟩
      case measure=>simp [intOf]
    ·obtain rfl:j = 32:=by omega
     have x0:=HW.out.old 0 V2;have x31:=HW.out.old 31 V2;obtain ⟨b0,hG⟩:=HW.out.cellG 31 V2;have hF:=HW.out.blk.frozen 31;have hsz:=HW.out.ext.size;have hbits:=HW.out;have HBB:=Hi (HB.out.trans (HW.out.ext.mono HB.out.size));have HFIN:=Hi (HW.out.fin V2 (HS1.out));have hlt2:wo.heap.size < wr.heap.size:=HW.out.blk.lt;have hcc:shC 1 a (i+1) c=x.getLsbD 0:=HC1.out;exact V2N
  ·have hiN:min (n) 70=i:=by omega
   have hi2:(i = 70/\70 < n)\/(i<=70/\i=n):=V0;obtain ⟨y,hy⟩:∃ y,shV 1 a i=y:=⟨_,rfl⟩;obtain ⟨cc,hcc⟩:∃ cc,shC 1 a i c=cc:=⟨_,rfl⟩;exact V2o
end Co
namespace Ev
open Go Go.ChangeShapes Go.WideShapes Go.ChangeAt Go.RowKit Lx Args Pa Sh Go.Proofs.YtcgibpdjfgjldaaGreatDoor.Nm WMath Fl
def TwP(w:World)(x:BitVec 32)(e:Ending)(w':World):Prop:=e = .returned (.tuple #[uV x,.bool true])/\Below w.heap.size w w'
theorem two3(w:World)(s:Bs)(x y:BitVec 32)(hs:s=[124]\/s=[94]\/s=[38]\/s=[43]\/s=[45]):Calls Tryz.prog 47 #[.int .i64 3,.string ⟨s.toArray⟩,uV x,uV y] w (TwP w (boB s x y)):=by
 have hx:(x.toNat:Int) < 4294967296:=V00;have hy:(y.toNat:Int) < 4294967296:=V13;have HB:=Hi (Below.refl w.heap.size w);unfold TwP;have ha:=add_u x y;have hs':=sub_u x y;have h1:=b_and x y;have h2:=b_or x y;have h3:=b_xor x y;rcases hs with rfl | rfl | rfl | rfl | rfl
 ·rw [show boB [124] x y=x ||| y from rfl];go_enter Tryz.func47,Tryz.ntmps47;go_wp2_with fail
  go_ret2
  refine ⟨?_,HB.out⟩;show Ending.returned (.tuple #[.int .u32 (((x.toNat ||| y.toNat:Nat):Int)),.bool true])=_;rw [<-BitVec.toNat_or]
 ·rw [show boB [94] x y=x ^^^ y from rfl];go_enter Tryz.func47,Tryz.ntmps47;go_wp2_with fail
  go_ret2
  refine ⟨?_,HB.out⟩;show Ending.returned (.tuple #[.int .u32 (((x.toNat ^^^ y.toNat:Nat):Int)),.bool true])=_;rw [<-BitVec.toNat_xor]
 ·rw [show boB [38] x y=x &&& y from rfl];go_enter Tryz.func47,Tryz.ntmps47;go_wp2_with fail
  go_ret2
  refine ⟨?_,HB.out⟩;show Ending.returned (.tuple #[.int .u32 (((x.toNat &&& y.toNat:Nat):Int)),.bool true])=_;rw [<-BitVec.toNat_and]
 ·rw [show boB [43] x y=x+y from rfl];go_enter Tryz.func47,Tryz.ntmps47;go_wp2_with fail
  go_ret2
  refine ⟨?_,HB.out⟩;show Ending.returned (.tuple #[.int .u32 (((x.toNat:Int)+(y.toNat:Int)) % 4294967296),.bool true])=_;rw [ha]
 ·rw [show boB [45] x y=x - y from rfl];go_enter Tryz.func47,Tryz.ntmps47;go_wp2_with fail
  go_ret2
  refine ⟨?_,HB.out⟩;show Ending.returned (.tuple #[.int .u32 (((x.toNat:Int) - (y.toNat:Int)) % 4294967296),.bool true])=_;rw [hs']
theorem two4(w:World)(s:Bs)(x y:BitVec 32)(hs:s=[60,60]\/s=[62,62]\/s=[60,60,60]):Calls Tryz.prog 47 #[.int .i64 4,.string ⟨s.toArray⟩,uV x,uV y] w (TwP w (shB s x y)):=by
 have hx:(x.toNat:Int) < 4294967296:=V00;have hy:(y.toNat:Int) < 4294967296:=V13;have HB:=Hi (Below.refl w.heap.size w);unfold TwP;have HS:=Hi (Co.rsh0 x y.toNat y.isLt false w);have HT:=Hi (Co.rsh1 x y.toNat y.isLt false w);have HR:=Hi (Ref.rrotC x y.toNat y.isLt w);unfold Co.ShEnd at HS HT;rcases hs with rfl | rfl | rfl
 ·rw [show shB [60,60] x y=Word.shV 0 x y.toNat from rfl];go_enter Tryz.func47,Tryz.ntmps47;go_wp2_with fail
  refine (show Calls Tryz.prog 89 #[.int .i64 0,uV x,uV y,.bool false] w _ from HS.out).mono ?_;exact V1q
 ·rw [show shB [62,62] x y=Word.shV 1 x y.toNat from rfl];go_enter Tryz.func47,Tryz.ntmps47;go_wp2_with fail
  refine (show Calls Tryz.prog 89 #[.int .i64 1,uV x,uV y,.bool false] w _ from HT.out).mono ?_;exact V1q
 ·rw [show shB [60,60,60] x y=x.rotateLeft y.toNat from rfl];go_enter Tryz.func47,Tryz.ntmps47;go_wp2_with fail
  refine (show Calls Tryz.prog 90 #[uV x,uV y] w _ from HR.out).mono ?_;exact V1q
end Ev
end Go.Proofs.YtcgibpdjfgjldaaGreatDoor
