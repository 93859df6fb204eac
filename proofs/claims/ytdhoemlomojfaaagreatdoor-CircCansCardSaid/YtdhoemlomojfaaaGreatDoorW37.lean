/- DERIVED. LxPs, LxSq, LxFi. By an AI agent. -/
import Derived.Test.YtdhoemlomojfaaaGreatDoorW01
import Derived.Test.YtdhoemlomojfaaaGreatDoorW36
import Derived.Test.YtdhoemlomojfaaaGreatDoorW10
import Derived.RangeFuncNested
import Derived.RangeFuncBound
import Derived.RangeFuncCalls
import Derived.RangeFuncLeaves
import Derived.RangeFuncBox
import Derived.Shelf.Abstract
import Derived.Shelf.RegionOpen
import Derived.OwnWalkIn
import Derived.TacticsInMore
import Derived.LoopNIn
import Derived.LoopIn
set_option maxRecDepth 100000
set_option maxHeartbeats 4000000
set_option linter.unusedVariables false
set_option linter.unusedSimpArgs false
namespace Go.Proofs.YtdhoemlomojfaaaGreatDoor.Lx
open Go Go.ChangeShapes Go.WideShapes Go.ChangeAt Go.RowKit Args
def szOf:Value→Nat
 | .string t=>t.size
 | _=>0
theorem bs_size(l:Bs):(⟨l.toArray⟩:ByteArray).size=l.length:=by show l.toArray.size=_;simp
theorem has(s p:ByteArray)(w:World):Calls Tryz.prog 126 #[.string s,.string p] w fun e w'=>e = .returned (.bool (p.data.toList.isPrefixOf s.data.toList))∧w=w':=
 (Tryz.strings_HasPrefix s p w).mono fun e w' ⟨h1,h2⟩=>⟨h1,h2.symm⟩
def PsI(R:Bs)(n:Nat)(t:ByteArray):Prop:=(∃ r:Bs,r.dropWhile (blk3.contains ·)=t.data.toList)∧restL t.data.toList=R∧t.size≤n
theorem passed(s:ByteArray)(hs:s.size≤100000)(w:World):Calls Tryz.prog 104 #[.string s] w fun e w'=>e = .returned (.string ⟨(restL s.data.toList).toArray⟩)∧Below w.heap.size w w':=by
 obtain ⟨R,hR⟩:∃ R,restL s.data.toList=R:=⟨_,rfl⟩;rw [hR];have ht:=trim s w;have hdl:(s.data.toList.dropWhile (blk3.contains ·)).length≤s.size:=by
  have:=(List.dropWhile_sublist (l:=s.data.toList) (blk3.contains ·)).length_le;simpa using this
 have hI:PsI R 100000 ⟨(s.data.toList.dropWhile (blk3.contains ·)).toArray⟩:=⟨⟨_,rfl⟩,by show restL (s.data.toList.dropWhile (blk3.contains ·))=R;rw [rest_trim,hR],by rw [bs_size];omega⟩;generalize (⟨(s.data.toList.dropWhile (blk3.contains ·)).toArray⟩:ByteArray)=t0 at *;have HT:=Hi ht;have HI:=Hi hI;clear ht hI hR hdl;go_enter Tryz.func104,Tryz.ntmps104;go_wp2_with fail
 refine HT.out.mono ?_;rintro e w1 ⟨rfl,hb1⟩;have HB1:=Hi hb1;clear hb1;go_wp2_with fail
 go_loopw [0] (fun vi wr=>∃ t:ByteArray,vi = .string t∧Hid (PsI R 100000 t)∧Hid (Below w.heap.size w wr)) (fun vi _=>szOf vi)
 case atStart=>exact ⟨t0,rfl,HI,HB1⟩
 case round=>
  obtain ⟨t,rfl,HP,HW⟩:=hrel;obtain ⟨⟨r,hr⟩,hrest,hsz⟩:=HP.out;have hsw:=HW.out.size;cases hp:([47,47]:Bs).isPrefixOf t.data.toList with
  | false=>
   have hh:=has t ⟨#[47,47]⟩ wr;rw [show (⟨#[47,47]⟩:ByteArray).data.toList=[47,47] from rfl,hp] at hh;have hE:=rest_stop hr hp;have HH:=Hi hh;have HE:=Hi (show (⟨R.toArray⟩:ByteArray)=t by rw [←hrest,hE]);clear hh hE hr hrest hp HP;go_wp2_with fail
   refine HH.out.mono ?_;rintro e w' ⟨rfl,rfl⟩;go_wp2_with fail
   go_ret;exact ⟨by rw [HE.out] <;> rfl,HW.out⟩
  | true=>
   have hh:=has t ⟨#[47,47]⟩ wr;rw [show (⟨#[47,47]⟩:ByteArray).data.toList=[47,47] from rfl,hp] at hh;obtain ⟨c1,c2⟩:=rest_cm hp;have hcut:=cut t hsz wr;have htl:t.data.toList.length=t.size:=by simp
   obtain ⟨q,hq⟩:∃ q:ByteArray,(⟨(aft t.data.toList).toArray⟩:ByteArray)=q:=⟨_,rfl⟩;have hqd:q.data.toList=aft t.data.toList:=by rw [←hq]
   have hqs:q.size=(aft t.data.toList).length:=by rw [←hq,bs_size]
   rw [hq] at hcut;have htr:=fun W=>trim q W
   have hdl:(q.data.toList.dropWhile (blk3.contains ·)).length≤q.size:=by
    have:=(List.dropWhile_sublist (l:=q.data.toList) (blk3.contains ·)).length_le;simpa using this
   have hI:PsI R 100000 ⟨(q.data.toList.dropWhile (blk3.contains ·)).toArray⟩:=⟨⟨_,rfl⟩,by show restL (q.data.toList.dropWhile (blk3.contains ·))=R;rw [rest_trim,hqd,←c1,hrest],by rw [bs_size];omega⟩;have hms:(⟨(q.data.toList.dropWhile (blk3.contains ·)).toArray⟩:ByteArray).size < t.size:=by rw [bs_size];omega
   generalize (⟨(q.data.toList.dropWhile (blk3.contains ·)).toArray⟩:ByteArray)=t2 at *;have HH:=Hi hh;have HC:=Hi hcut;have HT2:=Hi htr;have HI2:=Hi hI;clear hh hcut htr hI hr hrest hp HP c1 c2 hq hqd hqs hdl htl;go_wp2_with fail
   refine HH.out.mono ?_;rintro e w' ⟨rfl,rfl⟩;go_wp2_with fail
   refine HC.out.mono ?_;rintro e w' ⟨⟨a,b,rfl⟩,n,rfl⟩;have HW2:=Hi (show Below w.heap.size w (wr.drewN n) from below_drewN HW.out n);have hsw2:w.heap.size≤(wr.drewN n).heap.size:=hsw;generalize wr.drewN n=w2 at *;clear HC HH;go_wp2_with fail
   refine (HT2.out _).mono ?_;rintro e w3 ⟨rfl,hb3⟩;have HW3:=Hi (show Below w.heap.size w w3 from HW2.out.trans (hb3.mono hsw2));clear hb3;go_wp2_with fail
   go_round
   case rel=>exact ⟨t2,rfl,HI2,HW3⟩
   case measure=>exact hms
end Go.Proofs.YtdhoemlomojfaaaGreatDoor.Lx
namespace Go.Proofs.YtdhoemlomojfaaaGreatDoor.Lx
open Go Go.ChangeShapes Go.WideShapes Go.ChangeAt Go.RowKit Go.Shelf Args
section
attribute [local go_sem] Oper.semAt_some
theorem ext_to(R:Bs)(i:Nat):(⟨R.toArray⟩:ByteArray).extract 0 i=⟨(R.take i).toArray⟩:=by
 apply ByteArray.ext;apply Array.toList_inj.1;rw [ByteArray.data_extract];simp
theorem ext_from(R:Bs)(i:Nat):(⟨R.toArray⟩:ByteArray).extract i R.length=⟨(R.drop i).toArray⟩:=by
 apply ByteArray.ext;apply Array.toList_inj.1;rw [ByteArray.data_extract];simp;exact List.take_of_length_le (by rw [List.length_drop];exact Nat.le_refl _)
theorem slice_to(R:Bs)(i:Nat)(h:i≤R.length)(W:World):(Instr.slice 9 (.string ⟨R.toArray⟩) none (some (.int .i64 (i:Int))) none).run Tryz.prog W = .ok (.string ⟨(R.take i).toArray⟩) W:=by
 have hs:=bs_size R;rw [run_slice_string_to_if W 9 ⟨R.toArray⟩ .i64 i Tryz.underlying9,if_pos ⟨by omega,by omega⟩,Int.toNat_natCast,ext_to]
theorem slice_from(R:Bs)(i:Nat)(h:i≤R.length)(W:World):(Instr.slice 9 (.string ⟨R.toArray⟩) (some (.int .i64 (i:Int))) none none).run Tryz.prog W = .ok (.string ⟨(R.drop i).toArray⟩) W:=by
 have hs:=bs_size R;rw [run_slice_string_from_if W 9 ⟨R.toArray⟩ .i64 i Tryz.underlying9,if_pos ⟨by omega,by omega⟩,Int.toNat_natCast,hs,ext_from]
def KB(B:Nat)(W W':World):Prop:=∀ k,B≤k→k≤B+2→W'.heap[k]?=W.heap[k]?
theorem kb_t{B:Nat}{X Y Z:World}(h:KB B X Y)(k:KB B Y Z):KB B X Z:=fun i h1 h2=>(k i h1 h2).trans (h i h1 h2)
theorem kb_b{B:Nat}{w:World}(hn:B+2 < w.heap.size)(W:World)(l:Nat)(o o':Obj)(hl:w.heap.size≤l)(h:W.heap[l]?=some o)(_:o.isCells=false):KB B W (W.putObj l o'):=
 fun k _ h2=>(grownBy_putObj' W l o').block k (by have:=(Array.getElem?_eq_some_iff.1 h).1;omega) (fun e=>by cases e;omega)
def strAt(w:World)(B:Nat):Nat:=match w.cell? ⟨B,0,none⟩ with | some v=>szOf v | none=>0
theorem strAt_of{w:World}{B:Nat}{R:Bs}(h:w.cell? ⟨B,0,none⟩=some (.string ⟨R.toArray⟩)):strAt w B=R.length:=by unfold strAt;rw [h];exact bs_size R
theorem split1(n:Nat)(hn:1≤n)(l B:Nat)(c:UInt8)(L:Bs)(J Jx:List Bs→World→Prop)(hJ:Rt.Ab B J)
  (hY:∀ pre x W,J pre W→pre.length < (splitB c L).length→YieldAt Fence.wide (n - 1) Tryz.prog l #[.string ⟨x.toArray⟩] W fun e W'=>
   (e = .returned (.bool true)∧J (pre ++ [x]) W'∧KB B W W')∨(e = .returned (.bool false)∧Jx (pre ++ [x]) W'))
  (W:World) (hL:L.length≤1000000) (hS:Blk W B 9 #[.string ⟨L.toArray⟩]) (hE:W.cell? ⟨B+1,0,none⟩=some (.string ⟨#[c]⟩)) (hZ:W.cell? ⟨B+2,0,none⟩=some (.int .i64 0)) (h0:J [] W) :
  CallsIn Fence.wide n Tryz.prog 171 #[.func (.yield l) #[] #[],.pointer (some ⟨B+1,0,none⟩),.pointer (some ⟨B,0,none⟩),.pointer (some ⟨B+2,0,none⟩)] W fun e W'=>(∃ v,e = .returned v) ∧
   ((∃ ys,ys=splitB c L∧J ys W')∨(∃ pre,pre <+: splitB c L∧Jx pre W')):=by
 refine callsIn_of_wp Tryz.func171 rfl trivial ?_ rfl;simp only [Tryz.ntmps171,List.size_toArray,List.length_cons,List.length_nil,Nat.reduceAdd,Nat.reduceSub,Array.replicate_succ,Array.replicate_zero,List.push_toArray,List.append_toArray,List.nil_append,List.cons_append];have HJ:=Hi hJ;have HY:=Hi hY;have HS:=Hi hS;have HE:=Hi hE;have HZ:=Hi hZ;have hIX:=Hi (fun R:Bs=>Tryz.strings_Index_one ⟨R.toArray⟩ c);clear hJ hY hS
 gi_wp2
 gi_loopw [7] (fun vr wr=>∃ (pre:List Bs) (R:Bs),vr=vr∧R.length≤1000000∧Hid (pre ++ splitB c R=splitB c L∧J pre wr∧Blk wr B 9 #[.string ⟨R.toArray⟩]∧wr.cell? ⟨B+1,0,none⟩=some (.string ⟨#[c]⟩)∧wr.cell? ⟨B+2,0,none⟩=some (.int .i64 0)))
  (fun _ wr=>strAt wr B)
 case atStart=>exact ⟨[],L,rfl,hL,Hi ⟨rfl,h0,HS.out,HE.out,HZ.out⟩⟩
 case round=>
  obtain ⟨pre,R,_,hR,HH⟩:=hrel;have c0:wr.cell? ⟨B,0,none⟩=some (.string ⟨R.toArray⟩):=HH.out.2.2.1.cell 0;have c1:=HH.out.2.2.2.1;have c2:=HH.out.2.2.2.2;have f0:=HH.out.2.2.1.frozen 0;rcases split_at c R with ⟨h1,h2⟩ | ⟨i,h1,h2,h3⟩
  ·have hx:=hIX.out R wr;rw [h1] at hx;have HX:=Hi hx;have hpre:=HH.out.1;rw [h2] at hpre;have HP:=Hi hpre;obtain ⟨fn,tmps,assign,body,hy,hRn⟩:=HY.out pre R wr HH.out.2.1 (by rw [←hpre];simp);clear hx h1 h2 hpre
   gi_wp2_with (refine ⟨trivial,?_⟩;gi_at_call 172;refine (callsIn_wide.2 HX.out).mono ?_;rintro e w' ⟨rfl,rfl⟩)
   refine hRn.mono ?_;rintro e W3 (⟨rfl,hJ3,hk3⟩ | ⟨rfl,hJx3⟩)
   ·gi_wp2
    go_end0
    exact ⟨⟨_,rfl⟩,.inl ⟨_,HP.out,hJ3⟩⟩
   ·gi_wp2
    go_end0
    exact ⟨⟨_,rfl⟩,.inr ⟨_,⟨[],by rw [List.append_nil];exact HP.out⟩,hJx3⟩⟩
  ·have hx:=hIX.out R wr;rw [h1] at hx;have HX:=Hi hx;have hpre:=HH.out.1;rw [h3] at hpre;have HP:=Hi hpre;obtain ⟨fn,tmps,assign,body,hy,hRn⟩:=HY.out pre (R.take i) wr HH.out.2.1 (by rw [←hpre];simp);have hsl:=slice_to R i (by omega) wr;have hsf:∀ W,(Instr.slice 9 (.string ⟨R.toArray⟩) (some (.int .i64 ((i:Int)+1))) none none).run Tryz.prog W = .ok (.string ⟨(R.drop (i+1)).toArray⟩) W:=fun W=>by
    have:=slice_from R (i+1) (by omega) W
    push_cast at this
    exact this
   have HSF:=Hi hsf;have hdl:(R.drop (i+1)).length < R.length:=by rw [List.length_drop];omega
   have i1:decide ((i:Int) < 0)=false:=by simp
   clear hx h1 hpre h3 hsf
   gi_wp2_with (refine ⟨trivial,?_⟩;gi_at_call 172;refine (callsIn_wide.2 HX.out).mono ?_;rintro e w' ⟨rfl,rfl⟩)
   refine hRn.mono ?_;rintro e W3 (⟨rfl,hJ3,hk3⟩ | ⟨rfl,hJx3⟩)
   ·have b3:Blk W3 B 9 #[.string ⟨R.toArray⟩]:=(hk3 B (Nat.le_refl _) (by omega)).trans HH.out.2.2.1;have d0:W3.cell? ⟨B,0,none⟩=some (.string ⟨R.toArray⟩):=b3.cell 0;have d1:W3.cell? ⟨B+1,0,none⟩=some (.string ⟨#[c]⟩):=(World.cell?_of_block (a:=⟨B+1,0,none⟩) (hk3 (B+1) (by omega) (by omega))).trans c1;have d2:W3.cell? ⟨B+2,0,none⟩=some (.int .i64 0):=(World.cell?_of_block (a:=⟨B+2,0,none⟩) (hk3 (B+2) (by omega) (by omega))).trans c2;have g0:=b3.frozen 0;have hs3:=HSF.out W3;have HB3:=Hi b3;have hJ4:=HJ.out _ W3 _ (some B) hJ3 (grownBy_setCell' W3 B (.string ⟨(R.drop (i+1)).toArray⟩)) (fun r e=>by cases e;rfl);have HJ4:=Hi hJ4;clear hJ3 hk3 b3 hJ4
    gi_wp2
    go_roundw
    case rel=>
     refine ⟨pre ++ [R.take i],R.drop (i+1),trivial,by omega,Hi ⟨?_,HJ4.out,HB3.out.set 0 _,?_,?_⟩⟩
     ·rw [←HP.out];simp
     ·exact (World.cell?_setCell_other W3 ⟨B,0,none⟩ ⟨B+1,0,none⟩ _ (by simp)).trans d1
     ·exact (World.cell?_setCell_other W3 ⟨B,0,none⟩ ⟨B+2,0,none⟩ _ (by simp)).trans d2
    case measure=>
     rw [strAt_of c0,strAt_of ((HB3.out.set 0 (.string ⟨(R.drop (i+1)).toArray⟩)).cell 0)];exact hdl
   ·gi_wp2
    refine bodyPost_ret (results_none rfl _ _ _) rfl ?_;exact ⟨⟨_,rfl⟩,.inr ⟨_,⟨splitB c (R.drop (i+1)),by rw [←HP.out];simp⟩,hJx3⟩⟩
def sqW(L:Bs)(c:UInt8)(w:World):World:=((w.alloc (.cells #[.string ⟨L.toArray⟩] 9)).alloc (.cells #[.string ⟨#[c]⟩] 9)).alloc (.cells #[.int .i64 0] 3)
def sqC(B:Nat):Array Value:=#[.pointer (some ⟨B+1,0,none⟩),.pointer (some ⟨B,0,none⟩),.pointer (some ⟨B+2,0,none⟩)]
theorem split_it(n:Nat)(hn:1≤n)(B:Nat)(c:UInt8)(L:Bs)(hL:L.length≤1000000)(w:World)(hB:B+2 < w.heap.size)(hS:Blk w B 9 #[.string ⟨L.toArray⟩])(hE:w.cell? ⟨B+1,0,none⟩=some (.string ⟨#[c]⟩))(hZ:w.cell? ⟨B+2,0,none⟩=some (.int .i64 0)) :
  Rt.It Fence.wide n Tryz.prog 171 (sqC B) (fun x:Bs=>#[.string ⟨x.toArray⟩]) (KB B) B (fun ys=>ys=splitB c L) (fun pre=>pre <+: splitB c L) (splitB c L).length w:=fun l J Jx W hW hJ _ hY h0=>
 split1 n hn l B c L J Jx hJ hY W hL (hS.below hW (by omega)) ((hW.cell (p:=⟨B+1,0,none⟩) (by show B+1 < _;omega)).trans hE) ((hW.cell (p:=⟨B+2,0,none⟩) hB).trans hZ) h0
theorem seqU(L:Bs)(c:UInt8)(w:World) :
  Calls Tryz.prog 158 #[.string ⟨L.toArray⟩,.string ⟨#[c]⟩,.int .i64 0] w fun e w'=>e = .returned (.func (.func 171) #[] (sqC w.heap.size))∧w'=sqW L c w:=by
 go_enter Tryz.func158,Tryz.ntmps158;go_wp2_with fail
 go_ret;exact ⟨rfl,rfl⟩
theorem seqC(L:Bs)(c:UInt8)(w:World) :
  Calls Tryz.prog 134 #[.string ⟨L.toArray⟩,.string ⟨#[c]⟩] w fun e w'=>e = .returned (.func (.func 171) #[] (sqC w.heap.size))∧w'=sqW L c w:=by
 have h:=seqU L c w;generalize sqW L c w=w1 at *;generalize sqC w.heap.size=F at *;go_enter Tryz.func134,Tryz.ntmps134;go_wp2_with fail
 refine h.mono ?_;rintro e w' ⟨rfl,rfl⟩;go_wp2_with fail
 go_ret;exact ⟨rfl,rfl⟩
end
section
attribute [local go_sem] Oper.semAt_some
def firstL(c:UInt8)(r:Bs):Option (Nat×Bs):=(tokC c r).map fun p=>(p.1,(c :: r).take p.2)
theorem first_let{c:UInt8}{r:Bs}(h:letB c=true):namedL ((c :: r).take (runL true (c :: r)))=firstL c r:=by
 have hon:onB true c=true:=by unfold onB;rw [h];rfl
 rw [runL_cons,if_pos hon,List.take_succ_cons];have hall:(c :: r.take (runL true r)).all (onB true)=true:=by
  rw [List.all_cons,hon];have key:∀ S:Bs,(S.take (runL true S)).all (onB true)=true:=fun S=>by
   induction S with
   | nil=>rfl
   | cons c r ih=>
    rw [runL_cons];split
    ·rename_i hc;rw [List.take_succ_cons,List.all_cons,hc,ih];rfl
    ·rfl
  rw [key];rfl
 have hlen:(c :: r.take (runL true r)).length=runL true r+1:=by
  rw [List.length_cons,List.length_take];have:=runL_le true r;omega
 unfold firstL tokC namedL;rw [if_pos h];by_cases hw:wordB (c :: r.take (runL true r))=true
 ·rw [if_pos hw,if_pos hw];rfl
 ·rw [if_neg hw,if_neg hw];have hw':wordB (c :: r.take (runL true r))=false:=by simpa using hw
  have hn:nameB (c :: r.take (runL true r))=decide (runL true r+1≤32):=by
   show (decide ((c :: r.take (runL true r)).length≤32) && letB c && !wordB (c :: r.take (runL true r)) && (c :: r.take (runL true r)).all (onB true))=_;rw [hlen,h,hw',hall];simp
  by_cases h32:32 < runL true r+1
  ·rw [if_pos h32,if_neg (by rw [hn];simp;omega)];rfl
  ·rw [if_neg h32,if_pos (by rw [hn];simp;omega)];rfl
theorem first_num{c:UInt8}{r:Bs}(hl:letB c=false)(h:numB c=true):firstL c r=some (2,(c :: r).take (runL false (c :: r))):=by
 have hon:onB false c=true:=by unfold onB;rw [hl,h];rfl
 rw [runL_cons,if_pos hon];unfold firstL tokC;rw [if_neg (by rw [hl];decide),if_pos h];rfl
theorem first_sign{c:UInt8}{r:Bs}(hl:letB c=false)(h:numB c=false):firstL c r=(signsL.find? fun x=>x.isPrefixOf (c :: r)).map fun x=>(4,x):=by
 unfold firstL;rw [tok_sign hl h];unfold tokS;cases hf:signsL.find? fun x=>x.isPrefixOf (c :: r) with
 | none=>rfl
 | some x=>
  have:=List.find?_some hf;simp only [Option.map_some];rw [sgn_take this]
theorem isAggE(w:World):(isAgg 47).run Tryz.prog w = .ok false w:=run_isAgg_plain Tryz.underlying47 rfl w
theorem size_len(s:ByteArray):s.data.toList.length=s.size:=by simp
theorem first_c(s:ByteArray){c:UInt8}{r:Bs}(hd:s.data.toList=c :: r):∃ h:0 < s.size,s[0]=c:=by
 have h0:0 < s.size:=by rw [←size_len,hd];exact Nat.succ_pos _
 refine ⟨h0,?_⟩;have:=bytes_cons s h0;rw [hd] at this;injection this with h1 _
 exact h1.symm
theorem take_size(s:ByteArray)(n:Nat)(hs:s.size≤100000):(⟨(s.data.toList.take n).toArray⟩:ByteArray).size≤100000:=by
 have:=size_len s;rw [bs_size,List.length_take];omega
theorem ftv_form(o:Option (Nat×Bs)):∃ (a1:Int) (a2:ByteArray) (e1:Int),FtV o = .tuple #[.agg #[.int .i64 a1,.string a2,.int .i64 0],.int .i64 e1]:=by
 cases o with
 | none=>exact ⟨_,_,_,rfl⟩
 | some p=>exact ⟨_,_,_,rfl⟩
def putFt(w:World)(n:Nat)(a1 a2 a3 e:Value):World:=(((w.setCell ⟨n,0,none⟩ a1).setCell ⟨n,1,none⟩ a2).setCell ⟨n,2,none⟩ a3).setCell ⟨n+1,0,none⟩ e
theorem put_tok{w:World}{n:Nat}{x y z u:Value}(h:Blk w n 134 #[x,y,z])(a1 a2 a3 e:Value):Blk (putFt w n a1 a2 a3 e) n 134 #[a1,a2,a3]:=by
 have h1:=Blk.set h 0 a1;have h2:=Blk.set h1 1 a2;have h3:=Blk.set h2 2 a3;exact h3.far (p:=⟨n+1,0,none⟩) (by show n≠n+1;omega) e
theorem put_err{w:World}{n:Nat}{u:Value}(h:Blk w (n+1) 47 #[u])(a1 a2 a3 e:Value):Blk (putFt w n a1 a2 a3 e) (n+1) 47 #[e]:=by
 have h1:=h.far (p:=⟨n,0,none⟩) (by show n+1≠n;omega) a1;have h2:=h1.far (p:=⟨n,1,none⟩) (by show n+1≠n;omega) a2;have h3:=h2.far (p:=⟨n,2,none⟩) (by show n+1≠n;omega) a3;exact h3.set 0 e
theorem put_below{w0 w:World}{B n:Nat}(h:Below B w0 w)(hB:B≤n)(a1 a2 a3 e:Value):Below B w0 (putFt w n a1 a2 a3 e):=
 (((h.setCell (p:=⟨n,0,none⟩) hB a1).setCell (p:=⟨n,1,none⟩) hB a2).setCell (p:=⟨n,2,none⟩) hB a3).setCell (p:=⟨n+1,0,none⟩) (by show B≤n+1;omega) e
def ftX(s:ByteArray)(x y z e:Value)(w:World):World:=((w.alloc (.cells #[.string s] 9)).alloc (.cells #[x,y,z] 134)).alloc (.cells #[e] 47)
theorem ftX_size(s:ByteArray)(x y z e:Value)(w:World):(ftX s x y z e w).heap.size=w.heap.size+3:=by unfold ftX;simp
theorem ftX_below(s:ByteArray)(x y z e:Value)(w:World):Below w.heap.size w (ftX s x y z e w):=(((Below.refl _ w).alloc (Nat.le_refl _) _).alloc (by simp) _).alloc (by simp;omega) _
theorem ftX_s(s:ByteArray)(x y z e:Value)(w:World):Blk (ftX s x y z e w) w.heap.size 9 #[.string s]:=((Blk.new w _ _).alloc _).alloc _
theorem ftX_t(s:ByteArray)(x y z e:Value)(w:World):Blk (ftX s x y z e w) (w.heap.size+1) 134 #[x,y,z]:=by
 have:=(Blk.new (w.alloc (.cells #[.string s] 9)) 134 #[x,y,z]).alloc (.cells #[e] 47);rw [World.size_alloc] at this;exact this
theorem ftX_e(s:ByteArray)(x y z e:Value)(w:World):Blk (ftX s x y z e w) (w.heap.size+1+1) 47 #[e]:=by
 have:=Blk.new ((w.alloc (.cells #[.string s] 9)).alloc (.cells #[x,y,z] 134)) 47 #[e];rw [World.size_alloc,World.size_alloc] at this;exact this
abbrev ftW(s:ByteArray)(w:World):World:=ftX s (.int .i64 0) (.string ⟨#[]⟩) (.int .i64 0) (.int .i64 0) w
theorem ftW_size(s:ByteArray)(w:World):(ftW s w).heap.size=w.heap.size+3:=ftX_size _ _ _ _ _ _
theorem ftW_below(s:ByteArray)(w:World):Below w.heap.size w (ftW s w):=ftX_below _ _ _ _ _ _
theorem ftW_t(s:ByteArray)(w:World):Blk (ftW s w) (w.heap.size+1) 134 #[.int .i64 0,.string ⟨#[]⟩,.int .i64 0]:=ftX_t _ _ _ _ _ _
theorem ftW_e(s:ByteArray)(w:World):Blk (ftW s w) (w.heap.size+1+1) 47 #[.int .i64 0]:=ftX_e _ _ _ _ _ _
theorem first_l(s:ByteArray)(c:UInt8)(r:Bs)(hs:s.size≤100000)(hd:s.data.toList=c :: r)(hl:letB c=true)(w:World) :
  Calls Tryz.prog 105 #[.string s] w fun e w'=>e = .returned (FtV (firstL c r))∧Below w.heap.size w w':=by
 obtain ⟨h0,hc⟩:=first_c s hd;have hle:=pletter s[0];rw [hc,hl,←hc] at hle;have hru:=prunT s (by omega);have hna:=pnamed ⟨(s.data.toList.take (runL true s.data.toList)).toArray⟩ (take_size s _ hs);have hF:namedL (⟨(s.data.toList.take (runL true s.data.toList)).toArray⟩:ByteArray).data.toList=firstL c r:=by
  show namedL (s.data.toList.take (runL true s.data.toList))=_;rw [hd];exact first_let hl
 rw [hF] at hna;generalize (⟨(s.data.toList.take (runL true s.data.toList)).toArray⟩:ByteArray)=t at *;obtain ⟨a1,a2,e1,hV⟩:=ftv_form (firstL c r);rw [hV] at hna ⊢;have HL:=Hi hle;have HR:=Hi hru;have HN:=Hi hna;clear hle hru hna hV hl hd hF hc;go_enter Tryz.func105,Tryz.ntmps105;go_wp2_with fail
 refine (HL.out _).mono ?_;rintro e w' ⟨rfl,rfl⟩;go_wp2_with fail
 refine (HR.out _).mono ?_;rintro e w' ⟨rfl,rfl⟩;go_wp2_with fail
 refine (HN.out _).mono ?_;rintro e w3 ⟨rfl,hb3⟩;have HB3:=Hi (show Below (w.heap.size+3) (ftW s w) w3 by rw [←ftW_size s w];exact hb3);clear hb3;have bt:=(ftW_t s w).below HB3.out (by omega);have be:=(ftW_e s w).below HB3.out (by omega);have HT:=Hi bt;have HE:=Hi be;have f0:=bt.frozen 0;have f1:=bt.frozen 1;have f2:=bt.frozen 2;have f3:=be.frozen 0;have c0:=bt.cell 0;have c1:=bt.cell 1;have c2:=bt.cell 2;have c3:=be.cell 0;simp only [List.getElem?_toArray,List.getElem?_cons_zero,List.getElem?_cons_succ] at c0 c1 c2 c3;clear bt be;go_wp2_with fail
 refine bodyPost_ret (results_cc rfl _ _ (w.heap.size+1) (w.heap.size+1+1) _ _ rfl rfl (loadT (put_tok (u:=.int .i64 0) HT.out _ _ _ _)) (loadVar_plain (isAggE _) ((put_err HE.out _ _ _ _).cell 0))) rfl ?_;exact ⟨rfl,put_below ((ftW_below s w).trans (HB3.out.mono (by omega))) (by omega) _ _ _ _⟩
theorem first_d(s:ByteArray)(c:UInt8)(r:Bs)(hs:s.size≤100000)(hd:s.data.toList=c :: r)(hl:letB c=false)(hn:numB c=true)(w:World) :
  Calls Tryz.prog 105 #[.string s] w fun e w'=>e = .returned (FtV (firstL c r))∧Below w.heap.size w w':=by
 obtain ⟨h0,hc⟩:=first_c s hd;have hle:=pletter s[0];rw [hc,hl,←hc] at hle;have hdi:=pdigit s[0];rw [hc,hn,←hc] at hdi;have hru:=prunF s (by omega);have hF:FtV (firstL c r) = .tuple #[.agg #[.int .i64 2,.string ⟨(s.data.toList.take (runL false s.data.toList)).toArray⟩,.int .i64 0],.int .i64 0]:=by
  rw [first_num hl hn,hd];rfl
 rw [hF];generalize (⟨(s.data.toList.take (runL false s.data.toList)).toArray⟩:ByteArray)=t at *;have HL:=Hi hle;have HR:=Hi hru;have HN:=Hi hdi;clear hle hru hdi hl hn hd hF hc;go_enter Tryz.func105,Tryz.ntmps105;go_wp2_with fail
 refine (HL.out _).mono ?_;rintro e w' ⟨rfl,rfl⟩;go_wp2_with fail
 refine (HN.out _).mono ?_;rintro e w' ⟨rfl,rfl⟩;go_wp2_with fail
 refine (HR.out _).mono ?_;rintro e w' ⟨rfl,rfl⟩;go_wp2_with fail
 refine bodyPost_ret (results_cc rfl _ _ (w.heap.size+1) (w.heap.size+1+1) _ _ rfl rfl (loadT (ftX_t s (.int .i64 2) (.string t) (.int .i64 0) (.int .i64 0) w)) (loadVar_plain (isAggE _) ((ftX_e s (.int .i64 2) (.string t) (.int .i64 0) (.int .i64 0) w).cell 0))) rfl ?_;exact ⟨rfl,ftX_below s _ _ _ _ w⟩
def FtI(s:ByteArray)(w:World)(pre:List Bs)(W:World):Prop:=(∀ x∈pre,x.isPrefixOf s.data.toList=false)∧Blk W w.heap.size 9 #[.string s] ∧
 Blk W (w.heap.size+1) 134 #[.int .i64 0,.string ⟨#[]⟩,.int .i64 0]∧Blk W (w.heap.size+1+1) 47 #[.int .i64 0]∧Below w.heap.size w W
def FtX(s:ByteArray)(w:World)(pre:List Bs)(W:World):Prop:=∃ q x,pre=q ++ [x]∧(∀ y∈q,y.isPrefixOf s.data.toList=false)∧x.isPrefixOf s.data.toList=true ∧
 Blk W (w.heap.size+1) 134 #[.int .i64 4,.string ⟨x.toArray⟩,.int .i64 0]∧Blk W (w.heap.size+1+1) 47 #[.int .i64 0]∧Below w.heap.size w W
theorem own_blk{T B g:Nat}{t:TypeId}{cs:Array Value}{A W:World}{row:Option Nat}(h:Blk A g t cs)(hg:A.grownBy W row)(hr:∀ r,row=some r→r=T∨(B≤r∧∃ o:Obj,A.heap[r]?=some o∧o.isCells=false))(hne:g≠T):Blk W g t cs:=
 (hg.block g h.lt (fun e=>by
  rcases hr g e.symm with h' | ⟨_,o,ho,hc⟩
  ·exact hne h'
  ·rw [show A.heap[g]?=_ from h] at ho;cases ho;cases hc)).trans h
theorem own_below{T B n:Nat}{w A W:World}{row:Option Nat}(h:Below n w A)(hg:A.grownBy W row)(hr:∀ r,row=some r→r=T∨(B≤r∧∃ o:Obj,A.heap[r]?=some o∧o.isCells=false))(hT:n≤T)(hB:n≤B)(hs:n≤A.heap.size):Below n w W:=
 h.grown hg hs fun k hk=>by rcases hr k hk with h' | ⟨h',_⟩ <;> omega
theorem ftI_own(s:ByteArray)(w:World){T B:Nat}(hT:w.heap.size+3≤T)(hB:w.heap.size≤B):Rt.OwnT T B (FtI s w):=fun pre A W row ⟨h1,h2,h3,h4,h5⟩ hg hr=>
 ⟨h1,own_blk h2 hg hr (by omega),own_blk h3 hg hr (by omega),own_blk h4 hg hr (by omega),own_below h5 hg hr (by omega) hB h5.size⟩
theorem ftX_own(s:ByteArray)(w:World){T B:Nat}(hT:w.heap.size+3≤T)(hB:w.heap.size≤B):Rt.OwnT T B (FtX s w):=fun pre A W row ⟨q,x,e,h1,h2,h3,h4,h5⟩ hg hr=>
 ⟨q,x,e,h1,h2,own_blk h3 hg hr (by omega),own_blk h4 hg hr (by omega),own_below h5 hg hr (by omega) hB h5.size⟩
theorem sqW_facts(L:Bs)(c:UInt8)(w:World):(sqW L c w).heap.size=w.heap.size+3∧Below w.heap.size w (sqW L c w)∧Blk (sqW L c w) w.heap.size 9 #[.string ⟨L.toArray⟩]∧(sqW L c w).cell? ⟨w.heap.size+1,0,none⟩=some (.string ⟨#[c]⟩)∧(sqW L c w).cell? ⟨w.heap.size+2,0,none⟩=some (.int .i64 0):=by
 refine ⟨by unfold sqW;simp,(((Below.refl _ w).alloc (Nat.le_refl _) _).alloc (by simp) _).alloc (by simp;omega) _,((Blk.new w _ _).alloc _).alloc _,?_,?_⟩
 ·have:=((Blk.new (w.alloc (.cells #[.string ⟨L.toArray⟩] 9)) 9 #[.string ⟨#[c]⟩]).alloc (.cells #[.int .i64 0] 3)).cell 0;rw [World.size_alloc] at this;exact this
 ·have:=(Blk.new ((w.alloc (.cells #[.string ⟨L.toArray⟩] 9)).alloc (.cells #[.string ⟨#[c]⟩] 9)) 3 #[.int .i64 0]).cell 0;rw [World.size_alloc,World.size_alloc] at this;exact this
theorem blk_putObj{W:World}{g:Nat}{t:TypeId}{cs:Array Value}(h:Blk W g t cs){D:Nat}{o:Obj}(o':Obj)(hl:W.heap[D]?=some o)(ho:o.isCells=false):Blk (W.putObj D o') g t cs:=
 ((grownBy_putObj' W D o').block g h.lt (fun e=>by
  cases e;rw [show W.heap[g]?=_ from h] at hl;cases hl;cases ho)).trans h
theorem below_putObj{n:Nat}{w W:World}(h:Below n w W){D:Nat}{o:Obj}(o':Obj)(hD:n≤D)(hl:W.heap[D]?=some o):Below n w (W.putObj D o'):=
 h.grown (grownBy_putObj' W D o') (by have:=(Array.getElem?_eq_some_iff.1 hl).1;omega) fun k e=>by cases e;exact hD
theorem put_keeps(W:World)(n:Nat)(a1 a2 a3 e:Value):KeepsOthers W (putFt W n a1 a2 a3 e):=
 (((KeepsOthers.setCell W ⟨n,0,none⟩ a1).trans (KeepsOthers.setCell _ ⟨n,1,none⟩ a2)).trans (KeepsOthers.setCell _ ⟨n,2,none⟩ a3)).trans (KeepsOthers.setCell _ ⟨n+1,0,none⟩ e)
theorem has_in{l:Nat}{n:Nat}(s:ByteArray)(x:Bs)(W:World):CallsIn (Fence.wide.inRound l) n Tryz.prog 126 #[.string s,.string ⟨x.toArray⟩] W fun e w'=>e = .returned (.bool (x.isPrefixOf s.data.toList))∧W=w':=
 CallsIn.inRound l (callsIn_wide.2 (has s ⟨x.toArray⟩ W))
theorem first_s(s:ByteArray)(c:UInt8)(r:Bs)(hs:s.size≤100000)(hd:s.data.toList=c :: r)(hl:letB c=false)(hn:numB c=false)(w:World) :
  Calls Tryz.prog 105 #[.string s] w fun e w'=>e = .returned (FtV (firstL c r))∧Below w.heap.size w w':=by
 obtain ⟨h0,hc⟩:=first_c s hd;have hle:=pletter s[0];rw [hc,hl,←hc] at hle;have hdi:=pdigit s[0];rw [hc,hn,←hc] at hdi;have HF:=Hi (first_sign (r:=r) hl hn);have HL:=Hi hle;have HN:=Hi hdi;have HD:=Hi hd;have HQ:=Hi (seqC signsT 32 (ftW s w));clear hle hdi hl hn hc hd;refine (callsIn_wide (n:=3)).1 ?_;refine callsIn_of_wp_marks Tryz.func105 rfl trivial ?_ rfl;simp only [Tryz.ntmps105,List.size_toArray,List.length_cons,List.length_nil,Nat.reduceAdd,Nat.reduceSub,Array.replicate_succ,Array.replicate_zero,List.push_toArray,List.append_toArray,List.nil_append,List.cons_append]
 gi_wp2_with ((first
  | (refine ⟨trivial,?_⟩;gi_at_call 128;refine (callsIn_wide.2 (HL.out _)).mono ?_;rintro e w' ⟨rfl,rfl⟩)
  | (refine ⟨trivial,?_⟩;gi_at_call 132;refine (callsIn_wide.2 (HN.out _)).mono ?_;rintro e w' ⟨rfl,rfl⟩)
  | (refine ⟨trivial,?_⟩;gi_at_call 134;refine (callsIn_wide.2 HQ.out).mono ?_;rintro e w' ⟨rfl,hw2⟩)))
 clear hw2;obtain ⟨q1,q2,q3,q4,q5⟩:=sqW_facts signsT 32 (ftW s w);have hB:=ftW_size s w;have hw1:=ftW_below s w;have bs:=((ftX_s s (.int .i64 0) (.string ⟨#[]⟩) (.int .i64 0) (.int .i64 0) w)).below q2 (by omega);have bt:=(ftW_t s w).below q2 (by omega);have be:=(ftW_e s w).below q2 (by omega);have hbw:Below w.heap.size w (sqW signsT 32 (ftW s w)):=hw1.trans (q2.mono (by omega));generalize (ftW s w).heap.size=B at *;generalize sqW signsT 32 (ftW s w)=w2 at *;clear HQ hw1 q2 HL HN;refine Rt.range rfl (by decide) (gf:=171) (lb:=sqC B) rfl trivial (enters_of Tryz.func171 (by kernel_rfl) rfl)
  (split_it 2 (by decide) B 32 signsT (by decide) w2 (by omega) q3 q4 q5) (by omega) kb_t (kb_b (by omega)) (Below.refl _ _) (fun _=>rfl)
  (FtI s w) (FtX s w) (ftI_own s w (by omega) (by omega)) (ftX_own s w (by omega) (by omega)) ⟨fun x hx=>(by cases hx),bs,bt,be,hbw⟩
  (fun x=>{ tmps:=#[.string s,.pointer (some ⟨w.heap.size,0,none⟩),.pointer (some ⟨w.heap.size+1,0,none⟩),.pointer (some ⟨w.heap.size+1+1,0,none⟩),.string ⟨x.toArray⟩,.bool false,.string s,
    .int .u8 (s[0].toNat:Int),.bool false,undef,undef,undef,undef,undef,.bool false,.string s,.int .u8 (s[0].toNat:Int),.bool false,undef,undef,undef,.func (.func 171) #[] (sqC B),.string ⟨x.toArray⟩,undef,undef,undef,undef,undef,undef],defers:=[] }) ?assign ?body ?done ?stop
 case assign=>
  intro l x W K hK;clear hB
  gi_wp2
  exact hK
 case body=>
  rintro l pre x W ⟨h1,h2,h3,h4,h5⟩ hlt;have c0:=h2.cell 0;simp only [List.getElem?_toArray,List.getElem?_cons_zero,List.getElem?_cons_succ] at c0;have hh:=fun n=>has_in (l:=l) (n:=n) s x W
  have hws:=h5.size;cases hp:x.isPrefixOf s.data.toList with
  | false=>
   rw [hp] at hh;have HH:=Hi hh;have HI:Hid (FtI s w (pre ++ [x]) W):=Hi ⟨fun y hy=>by
    rcases List.mem_append.1 hy with hy | hy
    ·exact h1 y hy
    ·rw [List.mem_singleton.1 hy];exact hp,h2,h3,h4,h5⟩
   clear hh h1 h2 h3 h4 h5 hp
   gi_wp2_with (refine ⟨trivial,?_⟩;gi_at_call 126;refine (HH.out _).mono ?_;rintro e w' ⟨rfl,rfl⟩)
   exact ⟨KeepsOthers.refl _,fun _ _ _=>rfl,HI.out⟩
  | true=>
   rw [hp] at hh;have HH:=Hi hh;have c1:=h3.cell 0;have c2:=h3.cell 1;have c3:=h3.cell 2;have c4:=h4.cell 0;have f1:=h3.frozen 0;have f2:=h3.frozen 1;have f3:=h3.frozen 2;have f4:=h4.frozen 0;simp only [List.getElem?_toArray,List.getElem?_cons_zero,List.getElem?_cons_succ] at c1 c2 c3 c4;have HI:Hid (FtX s w (pre ++ [x]) (putFt W (w.heap.size+1) (.int .i64 4) (.string ⟨x.toArray⟩) (.int .i64 0) (.int .i64 0))):=
    Hi ⟨pre,x,rfl,h1,hp,put_tok (u:=.int .i64 0) h3 _ _ _ _,put_err h4 _ _ _ _,put_below h5 (by omega) _ _ _ _⟩
   clear hh h1 h2 h3 h4 h5 hp
   gi_wp2_with (refine ⟨trivial,?_⟩;gi_at_call 126;refine (HH.out _).mono ?_;rintro e w' ⟨rfl,rfl⟩)
   exact ⟨put_keeps _ _ _ _ _ _,HI.out⟩
 case done=>
  rintro D xs W hD rfl ⟨h1,h2,h3,h4,h5⟩ hK;have hws:=h5.size;have c1:=h3.cell 0;have c2:=h3.cell 1;have c3:=h3.cell 2;have c4:=h4.cell 0;have f1:=h3.frozen 0;have f2:=h3.frozen 1;have f3:=h3.frozen 2;have f4:=h4.frozen 0;simp only [List.getElem?_toArray,List.getElem?_cons_zero,List.getElem?_cons_succ] at c1 c2 c3 c4;have hV:FtV (firstL c r) = .tuple #[.agg #[.int .i64 0,.string ⟨#[]⟩,.int .i64 0],.int .i64 100]:=by
   rw [HF.out,find_not _ _ (fun y hy=>by rw [←HD.out];exact h1 y (by rw [split_signs];exact hy))];rfl
  have HV:=Hi hV;have hk2:=(put_keeps W (w.heap.size+1) (.int .i64 0) (.string ⟨#[]⟩) (.int .i64 0) (.int .i64 100)).same D _ hK rfl;have HT:=Hi (blk_putObj (put_tok (u:=.int .i64 0) h3 (.int .i64 0) (.string ⟨#[]⟩) (.int .i64 0) (.int .i64 100)) (.deferred none) hk2 rfl);have HE:=Hi (blk_putObj (put_err h4 (.int .i64 0) (.string ⟨#[]⟩) (.int .i64 0) (.int .i64 100)) (.deferred none) hk2 rfl);have HB:=Hi (below_putObj (put_below h5 (by omega:w.heap.size≤w.heap.size+1) (.int .i64 0) (.string ⟨#[]⟩) (.int .i64 0) (.int .i64 100)) (.deferred none) (by omega) hk2);have HK:=Hi hk2;clear h1 h2 h3 h4 h5 hV hk2
  gi_wp2
  refine ⟨by simp,.inl ⟨_,_,rfl,run_takeDeferred HK.out,?_⟩⟩;rw [HV.out];exact ⟨_,results_cc rfl _ _ (w.heap.size+1) (w.heap.size+1+1) _ _ rfl rfl (loadT HT.out) (loadVar_plain (isAggE _) (HE.out.cell 0)),rfl,HB.out⟩
 case stop=>
  rintro D pre W hD ⟨z,hz⟩ ⟨q,x,rfl,h1,h2,h3,h4,h5⟩ hK;have hV:FtV (firstL c r) = .tuple #[.agg #[.int .i64 4,.string ⟨x.toArray⟩,.int .i64 0],.int .i64 0]:=by
   rw [HF.out,find_first _ q x signsL z (by rw [←split_signs,←hz];simp) (fun y hy=>by rw [←HD.out];exact h1 y hy) (by rw [←HD.out];exact h2)];rfl
  have HV:=Hi hV;have HT:=Hi (blk_putObj h3 (.deferred none) hK rfl);have HE:=Hi (blk_putObj h4 (.deferred none) hK rfl);have HB:=Hi (below_putObj h5 (.deferred none) (by omega) hK);have HK:=Hi hK;clear h1 h2 h3 h4 h5 hV hK hz
  gi_wp2
  refine ⟨by simp,.inl ⟨_,_,rfl,run_takeDeferred HK.out,?_⟩⟩;rw [HV.out];exact ⟨_,results_cc rfl _ _ (w.heap.size+1) (w.heap.size+1+1) _ _ rfl rfl (loadT HT.out) (loadVar_plain (isAggE _) (HE.out.cell 0)),rfl,HB.out⟩
theorem first(s:ByteArray)(c:UInt8)(r:Bs)(hs:s.size≤100000)(hd:s.data.toList=c :: r)(w:World) :
  Calls Tryz.prog 105 #[.string s] w fun e w'=>e = .returned (FtV (firstL c r))∧Below w.heap.size w w':=by
 cases hl:letB c with
 | true=>exact first_l s c r hs hd hl w
 | false=>
  cases hn:numB c with
  | true=>exact first_d s c r hs hd hl hn w
  | false=>exact first_s s c r hs hd hl hn w
end
end Go.Proofs.YtdhoemlomojfaaaGreatDoor.Lx
