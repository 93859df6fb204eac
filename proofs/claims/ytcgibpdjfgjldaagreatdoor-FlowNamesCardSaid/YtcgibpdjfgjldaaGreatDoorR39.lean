/- DERIVED. LxW. By an AI agent. -/
import Derived.Test.YtcgibpdjfgjldaaGreatDoorR02
import Derived.Test.YtcgibpdjfgjldaaGreatDoorR04
import Derived.Deep.CutBlock
import Derived.Deep.LoopGhost
set_option maxRecDepth 100000
set_option maxHeartbeats 16000000
set_option linter.unusedVariables false
set_option linter.unusedSimpArgs false
open Go Go.ChangeShapes Go.WideShapes Go.ChangeAt Go.RowKit
namespace Go.Proofs.YtcgibpdjfgjldaaGreatDoor
namespace Lx
open Args
def app(L:List Tk)(W:Wd):Wd:=if W.er = 0 then ⟨L ++ W.l,W.at_,0⟩ else W
theorem q8d(L:List Tk)(t:Tk)(W:Wd):app L (Wd.cons t W)=app (L ++ [t]) W:=by
 unfold app Wd.cons;by_cases h:W.er = 0
 ·rw [if_pos h,if_pos h,if_pos h];simp
 ·rw [if_neg h,if_neg h,if_neg h]
theorem go_nil(f i n:Nat):goL (f+1) [] i n=if n = 4000 then ⟨[],i,150⟩ else ⟨[⟨0,[],i⟩],0,0⟩:=rfl
theorem go_none{f i n:Nat}{c:UInt8}{r:Bs}(h:aW c r=none):goL (f+1) (c :: r) i n=⟨[],i,100⟩:=by
 show (match aW c r with
   | none=>(⟨[],i,100⟩:Wd)
   | some (k,m)=>if n = 4000 then ⟨[],i,150⟩ else
    Wd.cons ⟨k,(c :: r).take m,i⟩ (goL f (((c :: r).drop m).drop (aj false ((c :: r).drop m))) (i+m+aj false ((c :: r).drop m)) (n+1)))=_
 rw [h]
theorem q7a{f i n k m:Nat}{c:UInt8}{r:Bs}(h:aW c r=some (k,m)):goL (f+1) (c :: r) i n=if n = 4000 then ⟨[],i,150⟩ else
    Wd.cons ⟨k,(c :: r).take m,i⟩ (goL f (((c :: r).drop m).drop (aj false ((c :: r).drop m))) (i+m+aj false ((c :: r).drop m)) (n+1)):=by
 show (match aW c r with
   | none=>(⟨[],i,100⟩:Wd)
   | some (k,m)=>if n = 4000 then ⟨[],i,150⟩ else
    Wd.cons ⟨k,(c :: r).take m,i⟩ (goL f (((c :: r).drop m).drop (aj false ((c :: r).drop m))) (i+m+aj false ((c :: r).drop m)) (n+1)))=_
 rw [h]
def OwnT(base:Nat)(w:World)(A:Option Addr)(c:Nat)(L:List Tk):Prop:=w.ownsRow base 63 3 (.slice A L.length c) L.length (L.flatMap tkC)
theorem q7b{X:Nat->Prop}{w w':World}{base:Nat}{e:TypeId}{size n:Nat}{v:Value}{xs:List Value}(h:w.ownsRow base e size v n xs)(hu:Upd X w w')(hX:∀ g,base<=g->g < w.heap.size->¬ X g):w'.ownsRow base e size v n xs:=by
 refine ⟨h.1,h.2.imp id fun ⟨g,cap,cur,e1,hb,hh,r⟩=>⟨g,cap,cur,e1,hb,?_,r⟩⟩;have hl:=(Array.getElem?_eq_some_iff.1 hh).1;exact (hu.block g hl (hX g hb hl)).trans hh
def Far(s:ByteArray)(i:Nat)(L:List Tk):Prop:=∃ f,(s.data.toList.drop i).length < f/\app L (goL f (s.data.toList.drop i) i L.length)=af s.data.toList
theorem q7c(s:ByteArray)(h:s.size<=20000):Far s (aj false s.data.toList) []:=by
 refine ⟨s.data.toList.length+1,V0r,?_⟩;unfold af;rw [if_neg V4];generalize goL _ _ _ _=W;unfold app;split
 ·rename_i h;rw [<-h];rfl
 ·rfl
theorem far_end{s:ByteArray}{i:Nat}{L:List Tk}(h:Far s i L)(hi:i=s.size):af s.data.toList=if L.length = 4000 then ⟨[],i,150⟩ else ⟨L ++ [⟨0,[],i⟩],0,0⟩:=by
 obtain ⟨f,hf,e⟩:=h;rw [q0P s i V0] at hf e;obtain ⟨f,rfl⟩:∃ g,f=g+1:=⟨f - 1,by simp at hf;omega⟩;rw [go_nil] at e;rw [<-e];by_cases h:L.length = 4000
 ·rw [if_pos h,if_pos h];rfl
 ·rw [if_neg h,if_neg h];rfl
theorem q3O{s:ByteArray}{i:Nat}{L:List Tk}(h:Far s i L)(hi:i < s.size)(ht:aW s[i] (s.data.toList.drop (i+1))=none):af s.data.toList=⟨[],i,100⟩:=by
 obtain ⟨f,hf,e⟩:=h;rw [drop_at s i hi] at hf e;obtain ⟨f,rfl⟩:∃ g,f=g+1:=⟨f - 1,by simp at hf;omega⟩;rw [go_none ht] at e;rw [<-e];rfl
theorem q8e{s:ByteArray}{i k m:Nat}{L:List Tk}(h:Far s i L)(hi:i < s.size)(ht:aW s[i] (s.data.toList.drop (i+1))=some (k,m))(hn:L.length = 4000):af s.data.toList=⟨[],i,150⟩:=by
 obtain ⟨f,hf,e⟩:=h;rw [drop_at s i hi] at hf e;obtain ⟨f,rfl⟩:∃ g,f=g+1:=⟨f - 1,by simp at hf;omega⟩;rw [q7a ht,if_pos hn] at e;rw [<-e];rfl
theorem q8f{s:ByteArray}{i k m:Nat}{L:List Tk}(h:Far s i L)(hi:i < s.size)(ht:aW s[i] (s.data.toList.drop (i+1))=some (k,m))(hn:L.length≠4000) :
  Far s (i+m+aj false (s.data.toList.drop (i+m))) (L ++ [⟨k,(s.data.toList.drop i).take m,i⟩])/\1<=m/\i+m<=s.size:=by
 obtain ⟨f,hf,e⟩:=h;have hd:=drop_at s i hi;have hl:(s.data.toList.drop i).length=s.size - i:=V3;rw [hl] at hf;obtain ⟨f,rfl⟩:∃ g,f=g+1:=⟨f - 1,V0⟩;have hm:=q26 ht;rw [<-hd,hl] at hm;rw [hd,q7a ht,if_neg hn,q8d,<-hd] at e;simp only [List.drop_drop,<-Nat.add_assoc] at e;refine ⟨⟨f,?_,?_⟩,hm.1,V0⟩
 ·simp only [List.length_drop];simp;omega
 ·rw [List.length_append];exact e
theorem infoT:(Tryz.prog.info? 63).map (fun i=>(i.zero,i.size,i.bytes))=some (some (.agg #[.int .i64 0,.string ⟨#[]⟩,.int .i64 0]),3,32):=V1
def WordsP(s:ByteArray)(w:World)(e:Ending)(w':World):Prop:=
 ∃ A c,e = .returned (.tuple #[.slice A (af s.data.toList).l.length c,.int .i64 ((af s.data.toList).at_:Int),.int .i64 ((af s.data.toList).er:Int)])/\Af w' A ((af s.data.toList).l.flatMap tkC)/\Below w.heap.size w w'
theorem words_err'{s:ByteArray}{i e:Nat}(h:af s.data.toList=⟨[],i,e⟩)(w w':World)(hb:Below w.heap.size w w'):WordsP s w (.returned (.tuple #[.slice none 0 0,.int .i64 (i:Int),.int .i64 (e:Int)])) w':=by
 refine ⟨none,0,?_,?_,hb⟩
 ·rw [h];rfl
 ·rw [h];exact Af.nil _ _
theorem q8g(s:ByteArray)(w w':World){L:List Tk}(h:af s.data.toList=⟨L,0,0⟩)(A:Option Addr)(c n:Nat)(hn:n=L.length)(hL:Af w' A (L.flatMap tkC))(hb:Below w.heap.size w w'):WordsP s w (.returned (.tuple #[.slice A n c,.int .i64 0,.int .i64 0])) w':=by
 refine ⟨A,c,?_,?_,hb⟩
 ·rw [h,hn];rfl
 ·rw [h];exact hL
theorem q0k(S:ByteArray)(i m:Nat)(j:Int)(hj:j=((i+m:Nat):Int))(h:i+m<=S.size)(W:World):(Instr.slice 9 (.string S) (some (.int .i64 (i:Int))) (some (.int .i64 j)) none).run Tryz.prog W = .ok (.string ⟨((S.data.toList.drop i).take m).toArray⟩) W:=by
 subst hj;rw [run_slice_string W 9 S .i64 .i64 i (i+m:Nat) Tryz.underlying9 V0 V0 V0,Int.toNat_natCast,Int.toNat_natCast]
 congr 2
 apply ByteArray.ext;apply Array.toList_inj.1;rw [ByteArray.data_extract];simp
theorem q7d(s:ByteArray)(h:20000 < s.size)(w:World):Calls Tryz.prog 23 #[.string s] w (WordsP s w):=by
 have hL:=words_err' (s:=s) (i:=0) (e:=150) (q27 _ Va) w w (Below.refl _ _);have HL:=Hi hL;have i1:decide ((20000:Int) < (s.size:Int))=true:=V4;clear hL;generalize WordsP s w=Q at *;go_enter Tryz.func23,Tryz.ntmps23;go_wp2_with fail
 go_ret3
 exact HL.out
-- THE WALK (gen-lxw2.py)
theorem q14{s:ByteArray}{i k m:Nat}{hlt:i < s.size}(ht:aW s[i] (s.data.toList.drop (i+1))=some (k,m))(_:i < s.size):1<=m/\i+m<=s.size:=by
 have h:=q26 ht;have hl:(s.data.toList.drop i).length=s.size - i:=V3;rw [<-drop_at s i hlt,hl] at h;exact ⟨h.1,V0⟩
theorem in3(S:Bs)(b:Bool)(hb:dz.contains S=b)(W:World)(g:Nat)(hg:g=W.heap.size):Calls Tryz.prog 52 #[.slice (some ⟨g,0,none⟩) 3 3,.string ⟨S.toArray⟩] (W.alloc (.cells #[.string ⟨#[60,60]⟩,.string ⟨#[62,62]⟩,.string ⟨#[46,46]⟩] 9)) (fun e w'=>e = .returned (.bool b)/\(W.alloc (.cells #[.string ⟨#[60,60]⟩,.string ⟨#[62,62]⟩,.string ⟨#[46,46]⟩] 9))=w'):=by
 subst hg;have h:=in_ (some ⟨W.heap.size,0,none⟩) 3 dz ⟨S.toArray⟩ (W.alloc (.cells (strs dz).toArray 9)) (q0K W 9 dz) V2;rw [<-hb];exact h
def sgl1:List Bs:=signs1.map fun c=>[c]
theorem q8h(c:UInt8):sgl1.contains [c]=decide (c∈signs1):=by
 simp [sgl1,List.contains_eq_mem]
theorem in13(c:UInt8)(b:Bool)(hb:decide (c∈signs1)=b)(W:World)(g:Nat)(hg:g=W.heap.size):Calls Tryz.prog 52 #[.slice (some ⟨g,0,none⟩) 13 13,.string ⟨[c].toArray⟩] (W.alloc (.cells #[.string ⟨#[61]⟩,.string ⟨#[59]⟩,.string ⟨#[44]⟩,.string ⟨#[40]⟩,.string ⟨#[41]⟩,.string ⟨#[123]⟩,.string ⟨#[125]⟩,.string ⟨#[43]⟩,.string ⟨#[45]⟩,.string ⟨#[38]⟩,.string ⟨#[124]⟩,.string ⟨#[94]⟩,.string ⟨#[126]⟩] 9)) (fun e w'=>e = .returned (.bool b)/\(W.alloc (.cells #[.string ⟨#[61]⟩,.string ⟨#[59]⟩,.string ⟨#[44]⟩,.string ⟨#[40]⟩,.string ⟨#[41]⟩,.string ⟨#[123]⟩,.string ⟨#[125]⟩,.string ⟨#[43]⟩,.string ⟨#[45]⟩,.string ⟨#[38]⟩,.string ⟨#[124]⟩,.string ⟨#[94]⟩,.string ⟨#[126]⟩] 9))=w'):=by
 subst hg;have h:=in_ (some ⟨W.heap.size,0,none⟩) 13 sgl1 ⟨[c].toArray⟩ (W.alloc (.cells (strs sgl1).toArray 9)) (q0K W 9 sgl1) V2;rw [show (⟨[c].toArray⟩:ByteArray).data.toList=[c] from rfl,q8h,hb] at h;exact h
theorem q8i{c:UInt8}{r:Bs}(h:numB c=true):aA (c :: r)=false:=by
 unfold aA words7;rw [List.contains_eq_mem,decide_eq_false_iff_not];simp only [List.mem_cons,List.not_mem_nil,or_false,List.cons.injEq];rintro (⟨rfl,_⟩ | ⟨rfl,_⟩ | ⟨rfl,_⟩ | ⟨rfl,_⟩ | ⟨rfl,_⟩ | ⟨rfl,_⟩ | ⟨rfl,_⟩) <;> revert h <;> decide
def Cut1(s:ByteArray)(i:Nat)(wr:World)(k m:Nat)(wx:World):Prop:=∃ h:i < s.size,aW s[i] (s.data.toList.drop (i+1))=some (k,m)/\Aa wx wr.heap.size 63 #[.int .i64 (k:Int),.string ⟨((s.data.toList.drop i).take m).toArray⟩,.int .i64 (i:Int)]/\Upd (fun _=>False) wr wx
theorem words(s:ByteArray)(w:World):Calls Tryz.prog 23 #[.string s] w (WordsP s w):=by
 by_cases h20:20000 < s.size
 ·exact q7d s h20 w
 have i1:decide ((20000:Int) < (s.size:Int))=false:=V4;obtain ⟨i0,hi,hz0,hz1,hz2⟩:=info_parts infoT;have HI:=Hi hi;have HZ0:=Hi hz0;have HZ1:=Hi hz1;have HZ2:=Hi hz2;have HO:=Hi (cz w (Nat.le_refl w.heap.size) 63 3);have HB:=Hi ((Below.refl w.heap.size w).alloc (Nat.le_refl _) (.cells #[] 63));have HS:=Hi (skip s 0 (Nat.zero_le _) V0 (w.alloc (.cells #[] 63)));have HF:=Hi (q7c s V0);have hsk:=q0I false s.data.toList;have hsz:s.data.toList.length=s.size:=V3;have hs20:s.size<=20000:=V0;clear hi hz0 hz1 hz2 h20;go_enter Tryz.func23,Tryz.ntmps23;go_wp2_with fail
 refine HS.out.mono ?_;rintro e w' ⟨rfl,rfl⟩;go_wp2_with fail
 go_loopw [5,6] (fun vl vi wr=>∃ (i:Nat) (A:Option Addr) (c:Nat) (L:List Tk),vl = .slice A L.length c/\vi = .int .i64 i/\(i<=s.size/\L.length<=4000)/\Hid (OwnT w.heap.size wr A c L/\Below w.heap.size w wr/\Far s i L)) (fun _ vi _=>s.size - (intOf vi).toNat)
 case atStart=>exact ⟨_,_,_,[],rfl,rfl,⟨V0,V2⟩,Hi ⟨HO.out,HB.out,HF.out⟩⟩
 case round=>
  clear HO HB HS HF hsk;obtain ⟨i,A,c,L,rfl,rfl,⟨hi,hL4⟩,HH⟩:=hrel;have hsz0:=HH.out.2.1.size;by_cases hend:i=s.size
  ·have hw:=far_end HH.out.2.2 hend;have i5:¬ i < s.size:=V0;have i6:((i:Int)==(s.size:Int))=true:=V4;clear hend;by_cases h4:L.length = 4000
   ·rw [if_pos h4] at hw;have HL:=Hi fun w' hb=>words_err' hw w w' hb
    have i4:decide ((L.length:Int) = 4000)=true:=V4;have HBE:=Hi (HH.out.2.1.alloc (Nat.le_trans (Nat.le_refl _) hsz0) (.cells #[.int .i64 0,.string ⟨#[]⟩,.int .i64 (i:Int)] 63));clear hw;go_wp2_with fail
    go_ret3
    exact HL.out _ HBE.out
   ·rw [if_neg h4] at hw;have HWL:=Hi hw;have i4:decide ((L.length:Int) = 4000)=false:=V4;obtain ⟨W7,hW7⟩:∃ W7,W7=wr.alloc (.cells #[.int .i64 0,.string ⟨#[]⟩,.int .i64 (i:Int)] 63):=⟨_,rfl⟩;have HX:=Hi (show Aa W7 wr.heap.size 63 #[.int .i64 0,.string ⟨#[]⟩,.int .i64 (i:Int)] by rw [hW7];exact Aa.new _ _ _);have HU:=Hi (show Upd (fun _=>False) wr W7 by rw [hW7];exact (Upd.refl _ _).alloc _);have HW7:=Hi hW7;clear hw hW7;go_upto_region 29 with fail
    rw [<-HW7.out];have HOW:=Hi (show OwnT w.heap.size W7 A c L from q7b HH.out.1 HU.out fun _ _ _ h=>h);have HBW:=Hi (show Below w.heap.size w W7 from HH.out.2.1.trans (HU.out.below hsz0 nofun));have hsz7:w.heap.size<=W7.heap.size:=HBW.out.size;clear HW7;have g0:=HX.out.cell 0;have g1:=HX.out.cell 1;have g2:=HX.out.cell 2;simp at g0 g1 g2;have HLI:=Hi (show Af (W7.alloc (.cells #[.int .i64 0,.string ⟨#[]⟩,.int .i64 (i:Int)] 63)) (some ⟨W7.heap.size,0,none⟩) [.int .i64 0,.string ⟨#[]⟩,.int .i64 (i:Int)] from fun j u hj=>⟨_,rfl,by
     rw [Args.add_plain,Nat.zero_add,World.cell?_alloc_at _ _ _ _ rfl];simpa using hj⟩)
    have HOA:=Hi (show (W7.alloc (.cells #[.int .i64 0,.string ⟨#[]⟩,.int .i64 (i:Int)] 63)).ownsRow w.heap.size 63 3 (.slice A L.length c) L.length (L.flatMap tkC) from World.ownsRow.alloc HOW.out _);have HBS:=Hi (show w.heap.size<=(W7.alloc (.cells #[.int .i64 0,.string ⟨#[]⟩,.int .i64 (i:Int)] 63)).heap.size from V4);have HOBB:=Hi (show ∀ q,(Value.slice A L.length c).ownBlock=some q->w.heap.size<=q from fun q hq=>(World.ownsRow.lt (show W7.ownsRow w.heap.size 63 3 (.slice A L.length c) L.length (L.flatMap tkC) from HOW.out) q hq).1);go_wp2_with (at_builtin;refine q2k rfl _ _ 55 rfl w.heap.size 63 i0 (.agg #[.int .i64 0,.string ⟨#[]⟩,.int .i64 0]) 3 32 Tryz.underlying55 HI.out HZ0.out HZ1.out HZ2.out rfl V2 _ L.length _ rfl HOA.out (some ⟨W7.heap.size,0,none⟩) 1 1 [.int .i64 0,.string ⟨#[]⟩,.int .i64 (i:Int)] rfl rfl HLI.out V0s V6 V0 HBS.out ?_;intro A8 c8 w8 h2 h3 h4 h5;have H4:=Hi h4;have H5:=Hi h5;clear h2 h3 h4 h5)
    go_ret3
    exact q8g s w w8 HWL.out A8 c8 _ V3 (by rw [List.flatMap_append];exact q0o H4.out) ((HBW.out.alloc hsz7 _).grown H5.out HBS.out HOBB.out)
  ·have hlt:i < s.size:=by omega
   clear hend
   go_upto_if 27 with fail
   go_cut [8,9] from 16 to 146 (fun v8 v9 wx=>∃ (k m:Nat),v8 = .int .i64 ((i+m:Nat):Int)/\Hid (Cut1 s i wr k m wx))
   case first=>
    cases hl:dx s[i] with
    | true=>
     obtain ⟨m,hm⟩:∃ m,m=aU true (s.data.toList.drop (i+1))+1:=⟨_,rfl⟩;have hml:=q1r true (s.data.toList.drop (i+1));rw [List.length_drop,hsz] at hml;have him0:i+m<=s.size:=V0;obtain ⟨q,hq⟩:∃ q,q=i+m:=⟨_,rfl⟩;have HQ:=Hi hq;have HR0:Hid (i+1+aU true (s.data.toList.drop (i+1))=q):=Hi V0;have hqs:q<=s.size:=V0;have hqi:i < q:=V0;have HM:=Hi hm;clear hm hq hml;have HLE:=Hi (show ∀ W,Calls Tryz.prog 49 #[.int .u8 ((s[i].toNat:Nat):Int)] W (fun e w'=>e = .returned (.bool true)/\W=w') from fun W=>by have:=letter s[i] W;rwa [hl] at this);go_wp2_with fail
     refine (HLE.out _).mono ?_;rintro e w' ⟨rfl,rfl⟩
     go_upto_block 2 with fail
     go_cut [8] from 37 to 64 (fun v8 wx=>v8 = .int .i64 (q:Int)/\wr.alloc (.cells #[.int .i64 0,.string ⟨#[]⟩,.int .i64 (i:Int)] 63)=wx)
     case first=>
      go_wp2_with fail
      go_loop [8] (fun vj=>∃ j:Nat,(i < j/\j<=s.size)/\vj = .int .i64 j/\Hid (j+aU true (s.data.toList.drop j)=q)) (fun vj=>s.size - (intOf vj).toNat)
      case atStart=>exact ⟨i+1,⟨V0,V0⟩,V7,HR0⟩
      case round=>
       obtain ⟨j,⟨hij,hjs⟩,rfl,HJ⟩:=hrel;by_cases hjl:j < s.size
       ·have hd:=drop_at s j hjl;have hq1:=HJ.out;have hlj:=letter s[j];have hnj:=num s[j];cases hlb:dx s[j] with
        | true=>
         rw [hlb] at hlj;have HLJ:=Hi hlj;rw [hd,q0g,if_pos (by unfold onB;simp [hlb])] at hq1;have HN:=Hi (show j+1+aU true (s.data.toList.drop (j+1))=q from V0);exact V3x
        | false=>
         rw [hlb] at hlj;have HLJ:=Hi hlj;cases hnb:numB s[j] with
         | true=>
          rw [hnb] at hnj;have HNJ:=Hi hnj;rw [hd,q0g,if_pos V25] at hq1;have HN:=Hi (show j+1+aU true (s.data.toList.drop (j+1))=q from V0);exact V2M
         | false=>
          rw [hnb] at hnj;have HNJ:=Hi hnj;by_cases h95:s[j].toNat = 95
          ·have e95:((s[j].toNat:Int)==95)=true:=by simp;omega
           have c95:s[j] = 95:=by rw [q4z h95];rfl
           rw [hd,q0g,if_pos (by unfold onB;simp [hlb,hnb,c95])] at hq1;have HN:=Hi (show j+1+aU true (s.data.toList.drop (j+1))=q from V0);clear hd hq1 HJ;clear hlj hnj hlb hnb h95 c95;go_wp2_with fail
           refine (HLJ.out _).mono ?_;rintro e w' ⟨rfl,rfl⟩;go_wp2_with fail
           refine (HNJ.out _).mono ?_;rintro e w' ⟨rfl,rfl⟩;go_wp2_with fail
           refine (HLE.out _).mono ?_;exact V1c
          ·exact V2m
       ·have hq1:=HJ.out;rw [q0P s j V0] at hq1;have HE:=Hi (show q=j by have:aU true [] = 0:=rfl;omega);clear hq1 HJ;exact V1A
     case rest=>
      obtain ⟨rfl,rfl⟩:=hcut;have hsl0:=fun W=>q0k s i m (q:Int) VV him0 W
      obtain ⟨X,hX⟩:∃ X,X=(s.data.toList.drop i).take m:=⟨_,rfl⟩;have hXc:X=s[i] :: (s.data.toList.drop (i+1)).take (m - 1):=by
       exact V3W
      rw [<-hX] at hsl0;have hwd:=fun W=>word ⟨X.toArray⟩ W
      have HXC:=Hi hXc;have HB2:=Hi (show Aa (wr.alloc (.cells #[.int .i64 2,.string ⟨#[]⟩,.int .i64 (i:Int)] 63)) wr.heap.size 63 #[.int .i64 2,.string ⟨#[]⟩,.int .i64 (i:Int)] from Aa.new _ _ _);have Ai:=Hi (show Upd (fun _=>False) wr (wr.alloc (.cells #[.int .i64 2,.string ⟨#[]⟩,.int .i64 (i:Int)] 63)) from (Upd.refl _ _).alloc _);clear hX hXc;cases hwb:aA X with
      | true=>
       have ht:aW s[i] (s.data.toList.drop (i+1))=some (3,m):=by
        unfold aW;rw [if_pos hl,if_pos (by rw [show aU true (s.data.toList.drop (i+1))=m - 1 from VF,<-HXC.out];exact hwb),HM.out]
       have hwd2:∀ W,Calls Tryz.prog 51 #[.string ⟨X.toArray⟩] W fun e w'=>e = .returned (.bool true)/\Below W.heap.size W w':=fun W=>by have:=hwd W;rwa [show aA (⟨X.toArray⟩:ByteArray).data.toList=true from hwb] at this
       have HW:=Hi hwd2;clear hwd hwd2 hwb;go_wp2_with fail
       refine (HW.out _).mono ?_;rintro e W5 ⟨rfl,hb5⟩;have AX:=Hi (HB2.out.below hb5 HB2.out.lt);have AR:=Hi (Ai.out.trans (Upd.of_below hb5 _));have k0:W5.cell? ⟨wr.heap.size,0,none⟩=some (.int .i64 2):=AX.out.cell 0;have k1:=AX.out.frozen 0;clear hb5;obtain ⟨W6,hW6⟩:∃ W6,W6=W5.setCell ⟨wr.heap.size,0,none⟩ (.int .i64 3):=⟨_,rfl⟩;have HX:=Hi (show Aa W6 wr.heap.size 63 #[.int .i64 3,.string ⟨#[]⟩,.int .i64 (i:Int)] by rw [hW6];exact AX.out.set 0 _);have HU:=Hi (show Upd (fun _=>False) wr W6 from V3N);have HW6:=Hi hW6;clear hW6;go_upto_region 26 with fail
       rw [<-HW6.out];clear HW6 hsl0 k0 k1;have him:i+(m)<=s.size:=(q14 ht hlt).2;have hmid:=q0k s i (m) ((q:Int)) VV him;obtain ⟨S,hS⟩:∃ S,S=(s.data.toList.drop i).take (m):=⟨_,rfl⟩;rw [<-hS] at hmid;have f1:W6.cell? ⟨wr.heap.size,1,none⟩=some (.string ⟨#[]⟩):=HX.out.cell 1;have f2:=HX.out.frozen 1;have HCUT:=Hi (show Cut1 s i wr 3 (m) (W6.setCell ⟨wr.heap.size,1,none⟩ (.string ⟨S.toArray⟩)) from ⟨hlt,ht,V05,HU.out.setCell (p:=⟨wr.heap.size,1,none⟩) (fun h=>absurd h (Nat.lt_irrefl _)) _⟩);clear hS ht;go_wp2_with fail
       go_meet
       exact ⟨3,m,by rw [HQ.out],HCUT⟩
      | false=>
       have hwd2:∀ W,Calls Tryz.prog 51 #[.string ⟨X.toArray⟩] W fun e w'=>e = .returned (.bool false)/\Below W.heap.size W w':=fun W=>V3O
       have HW:=Hi hwd2;by_cases h32:32 < m
       ·have ht:aW s[i] (s.data.toList.drop (i+1))=none:=by
         unfold aW;rw [if_pos hl,if_neg V3P,if_pos VF]
        have HL:=Hi fun w' hb=>words_err' (q3O HH.out.2.2 hlt ht) w w' hb
        have i32:decide ((32:Int) < (q:Int) - (i:Int))=true:=decide_eq_true VV;clear hwd hwd2 hwb ht;go_wp2_with fail
        refine (HW.out _).mono ?_;rintro e W5 ⟨rfl,hb5⟩;have AX:=Hi (HB2.out.below hb5 HB2.out.lt);have AR:=Hi (Ai.out.trans (Upd.of_below hb5 _));have k0:W5.cell? ⟨wr.heap.size,0,none⟩=some (.int .i64 2):=AX.out.cell 0;have k1:=AX.out.frozen 0;clear hb5;have HBE:=Hi (show Below w.heap.size w (W5.setCell ⟨wr.heap.size,0,none⟩ (.int .i64 1)) from HH.out.2.1.trans ((AR.out.setCell (p:=⟨wr.heap.size,0,none⟩) (fun h=>absurd h (Nat.lt_irrefl _)) _).below hsz0 nofun));go_wp2_with fail
        refine (HLE.out _).mono ?_;exact V1t
       ·have ht:aW s[i] (s.data.toList.drop (i+1))=some (1,m):=by
         unfold aW;rw [if_pos hl,if_neg V3P,if_neg VF,HM.out]
        have i32:decide ((32:Int) < (q:Int) - (i:Int))=false:=decide_eq_false VV;clear hwd hwd2 hwb;go_wp2_with fail
        refine (HW.out _).mono ?_;rintro e W5 ⟨rfl,hb5⟩;have AX:=Hi (HB2.out.below hb5 HB2.out.lt);have AR:=Hi (Ai.out.trans (Upd.of_below hb5 _));have k0:W5.cell? ⟨wr.heap.size,0,none⟩=some (.int .i64 2):=AX.out.cell 0;have k1:=AX.out.frozen 0;clear hb5;obtain ⟨W6,hW6⟩:∃ W6,W6=W5.setCell ⟨wr.heap.size,0,none⟩ (.int .i64 1):=⟨_,rfl⟩;have HX:=Hi (show Aa W6 wr.heap.size 63 #[.int .i64 1,.string ⟨#[]⟩,.int .i64 (i:Int)] by rw [hW6];exact AX.out.set 0 _);have HU:=Hi (show Upd (fun _=>False) wr W6 from V3N);have HW6:=Hi hW6;clear hW6;go_wp2_with fail
        refine (HLE.out _).mono ?_;rintro e w' ⟨rfl,rfl⟩;go_upto_region 26 with fail
        rw [<-HW6.out];clear HW6 hsl0 k0 k1;have him:i+(m)<=s.size:=(q14 ht hlt).2;have hmid:=q0k s i (m) ((q:Int)) VV him;obtain ⟨S,hS⟩:∃ S,S=(s.data.toList.drop i).take (m):=⟨_,rfl⟩;rw [<-hS] at hmid;have f1:W6.cell? ⟨wr.heap.size,1,none⟩=some (.string ⟨#[]⟩):=HX.out.cell 1;have f2:=HX.out.frozen 1;have HCUT:=Hi (show Cut1 s i wr 1 (m) (W6.setCell ⟨wr.heap.size,1,none⟩ (.string ⟨S.toArray⟩)) from ⟨hlt,ht,V05,HU.out.setCell (p:=⟨wr.heap.size,1,none⟩) (fun h=>absurd h (Nat.lt_irrefl _)) _⟩);clear hS ht;go_wp2_with fail
        go_meet
        exact ⟨1,m,by rw [HQ.out],HCUT⟩
    | false=>
     have HLE:=Hi (show ∀ W,Calls Tryz.prog 49 #[.int .u8 ((s[i].toNat:Nat):Int)] W (fun e w'=>e = .returned (.bool false)/\W=w') from fun W=>by have:=letter s[i] W;rwa [hl] at this);cases hn:numB s[i] with
     | true=>
      obtain ⟨m,hm⟩:∃ m,m=aU false (s.data.toList.drop (i+1))+1:=⟨_,rfl⟩;have hml:=q1r false (s.data.toList.drop (i+1));rw [List.length_drop,hsz] at hml;have him0:i+m<=s.size:=V0;obtain ⟨q,hq⟩:∃ q,q=i+m:=⟨_,rfl⟩;have HQ:=Hi hq;have HR0:Hid (i+1+aU false (s.data.toList.drop (i+1))=q):=Hi V0;have hqs:q<=s.size:=V0;have hqi:i < q:=V0;have HM:=Hi hm;clear hm hq hml;have HNU:=Hi (show ∀ W,Calls Tryz.prog 50 #[.int .u8 ((s[i].toNat:Nat):Int)] W (fun e w'=>e = .returned (.bool true)/\W=w') from fun W=>by have:=num s[i] W;rwa [hn] at this);go_wp2_with fail
      refine (HLE.out _).mono ?_;rintro e w' ⟨rfl,rfl⟩;go_wp2_with fail
      refine (HNU.out _).mono ?_;rintro e w' ⟨rfl,rfl⟩
      go_upto_block 2 with fail
      go_cut [8] from 37 to 64 (fun v8 wx=>v8 = .int .i64 (q:Int)/\wr.alloc (.cells #[.int .i64 0,.string ⟨#[]⟩,.int .i64 (i:Int)] 63)=wx)
      case first=>
       go_wp2_with fail
       go_loop [8] (fun vj=>∃ j:Nat,(i < j/\j<=s.size)/\vj = .int .i64 j/\Hid (j+aU false (s.data.toList.drop j)=q)) (fun vj=>s.size - (intOf vj).toNat)
       case atStart=>exact ⟨i+1,⟨V0,V0⟩,V7,HR0⟩
       case round=>
        obtain ⟨j,⟨hij,hjs⟩,rfl,HJ⟩:=hrel;by_cases hjl:j < s.size
        ·have hd:=drop_at s j hjl;have hq1:=HJ.out;have hlj:=letter s[j];have hnj:=num s[j];cases hlb:dx s[j] with
         | true=>
          rw [hlb] at hlj;have HLJ:=Hi hlj;rw [hd,q0g,if_pos (by unfold onB;simp [hlb])] at hq1;have HN:=Hi (show j+1+aU false (s.data.toList.drop (j+1))=q from V0);exact V3x
         | false=>
          rw [hlb] at hlj;have HLJ:=Hi hlj;cases hnb:numB s[j] with
          | true=>
           rw [hnb] at hnj;have HNJ:=Hi hnj;rw [hd,q0g,if_pos V25] at hq1;have HN:=Hi (show j+1+aU false (s.data.toList.drop (j+1))=q from V0);exact V2M
          | false=>
           rw [hnb] at hnj;have HNJ:=Hi hnj;by_cases h95:s[j].toNat = 95
           ·have e95:((s[j].toNat:Int)==95)=true:=by simp;omega
            have c95:s[j] = 95:=by rw [q4z h95];rfl
            rw [hd,q0g,if_neg V25] at hq1;have HE:=Hi (show q=j from V0);clear hd hq1 HJ;clear hlj hnj hlb hnb h95 c95;go_wp2_with fail
            refine (HLJ.out _).mono ?_;rintro e w' ⟨rfl,rfl⟩;go_wp2_with fail
            refine (HNJ.out _).mono ?_;rintro e w' ⟨rfl,rfl⟩;go_wp2_with fail
            refine (HLE.out _).mono ?_;rintro e w' ⟨rfl,rfl⟩;exact V1A
           ·exact V2m
        ·have hq1:=HJ.out;rw [q0P s j V0] at hq1;have HE:=Hi (show q=j by have:aU false [] = 0:=rfl;omega);clear hq1 HJ;exact V1A
      case rest=>
       obtain ⟨rfl,rfl⟩:=hcut;have hsl0:=fun W=>q0k s i m (q:Int) VV him0 W
       obtain ⟨X,hX⟩:∃ X,X=(s.data.toList.drop i).take m:=⟨_,rfl⟩;have hXc:X=s[i] :: (s.data.toList.drop (i+1)).take (m - 1):=by
        exact V3W
       rw [<-hX] at hsl0;have hwd:=fun W=>word ⟨X.toArray⟩ W
       have HXC:=Hi hXc;have HB2:=Hi (show Aa (wr.alloc (.cells #[.int .i64 2,.string ⟨#[]⟩,.int .i64 (i:Int)] 63)) wr.heap.size 63 #[.int .i64 2,.string ⟨#[]⟩,.int .i64 (i:Int)] from Aa.new _ _ _);have Ai:=Hi (show Upd (fun _=>False) wr (wr.alloc (.cells #[.int .i64 2,.string ⟨#[]⟩,.int .i64 (i:Int)] 63)) from (Upd.refl _ _).alloc _);clear hX hXc;have hwb:aA X=false:=by rw [HXC.out];exact q8i hn
       have ht:aW s[i] (s.data.toList.drop (i+1))=some (2,m):=by
        unfold aW;rw [if_neg (by rw [hl];decide),if_pos hn,HM.out]
       have hwd2:∀ W,Calls Tryz.prog 51 #[.string ⟨X.toArray⟩] W fun e w'=>e = .returned (.bool false)/\Below W.heap.size W w':=fun W=>V3O
       have HW:=Hi hwd2;clear hwd hwd2 hwb;go_wp2_with fail
       refine (HW.out _).mono ?_;rintro e W5 ⟨rfl,hb5⟩;have AX:=Hi (HB2.out.below hb5 HB2.out.lt);have AR:=Hi (Ai.out.trans (Upd.of_below hb5 _));have k0:W5.cell? ⟨wr.heap.size,0,none⟩=some (.int .i64 2):=AX.out.cell 0;have k1:=AX.out.frozen 0;clear hb5;go_wp2_with fail
       refine (HLE.out _).mono ?_;rintro e w' ⟨rfl,rfl⟩;go_upto_region 26 with fail
       clear hsl0 k0 k1;have HX:=AX;have HU:=AR;obtain ⟨W6,hW6⟩:∃ W6,W6=W5:=⟨_,rfl⟩;rw [<-hW6] at HX HU ⊢;clear hW6 AX AR;have him:i+(m)<=s.size:=(q14 ht hlt).2;have hmid:=q0k s i (m) ((q:Int)) VV him;obtain ⟨S,hS⟩:∃ S,S=(s.data.toList.drop i).take (m):=⟨_,rfl⟩;rw [<-hS] at hmid;have f1:W6.cell? ⟨wr.heap.size,1,none⟩=some (.string ⟨#[]⟩):=HX.out.cell 1;have f2:=HX.out.frozen 1;have HCUT:=Hi (show Cut1 s i wr 2 (m) (W6.setCell ⟨wr.heap.size,1,none⟩ (.string ⟨S.toArray⟩)) from ⟨hlt,ht,V05,HU.out.setCell (p:=⟨wr.heap.size,1,none⟩) (fun h=>absurd h (Nat.lt_irrefl _)) _⟩);clear hS ht;go_wp2_with fail
       go_meet
       exact ⟨2,m,by rw [HQ.out],HCUT⟩
     | false=>
      have HNU:=Hi (show ∀ W,Calls Tryz.prog 50 #[.int .u8 ((s[i].toNat:Nat):Int)] W (fun e w'=>e = .returned (.bool false)/\W=w') from fun W=>by have:=num s[i] W;rwa [hn] at this);by_cases h3:(s.data.toList.drop i).take 3=[60,60,60]
      ·have hl3:i+3<=s.size:=by have:=congrArg List.length h3;simp at this;omega
       have ht:aW s[i] (s.data.toList.drop (i+1))=some (4,3):=by
        unfold aW;rw [hl,hn,if_neg V2,if_neg V2,<-drop_at s i hlt,if_pos h3]
       have hs3:=q0k s i 3 ((i:Int)+3) V0 hl3;rw [h3] at hs3;have i3:(i:Int)+3<=(s.size:Int):=V0;go_wp2_with fail
       refine (HLE.out _).mono ?_;rintro e w' ⟨rfl,rfl⟩;go_wp2_with fail
       refine (HNU.out _).mono ?_;rintro e w' ⟨rfl,rfl⟩;go_upto_region 26 with fail
       clear hs3 h3;obtain ⟨W6,hW6⟩:∃ W6,W6=wr.alloc (.cells #[.int .i64 4,.string ⟨#[]⟩,.int .i64 (i:Int)] 63):=⟨_,rfl⟩;have HX:=Hi (show Aa W6 wr.heap.size 63 #[.int .i64 4,.string ⟨#[]⟩,.int .i64 (i:Int)] by rw [hW6];exact Aa.new _ _ _);have HU:=Hi (show Upd (fun _=>False) wr W6 by rw [hW6];exact (Upd.refl _ _).alloc _);rw [<-hW6];clear hW6;have him:i+(3)<=s.size:=(q14 ht hlt).2;have hmid:=q0k s i (3) ((i:Int)+3) V0 him;obtain ⟨S,hS⟩:∃ S,S=(s.data.toList.drop i).take (3):=⟨_,rfl⟩;rw [<-hS] at hmid;have f1:W6.cell? ⟨wr.heap.size,1,none⟩=some (.string ⟨#[]⟩):=HX.out.cell 1;have f2:=HX.out.frozen 1;have HCUT:=Hi (show Cut1 s i wr 4 (3) (W6.setCell ⟨wr.heap.size,1,none⟩ (.string ⟨S.toArray⟩)) from ⟨hlt,ht,V05,HU.out.setCell (p:=⟨wr.heap.size,1,none⟩) (fun h=>absurd h (Nat.lt_irrefl _)) _⟩);clear hS ht;go_wp2_with fail
       go_meet
       exact ⟨4,3,by (try push_cast);rfl,HCUT⟩
      ·by_cases hl3:i+3<=s.size
       ·have i3:(i:Int)+3<=(s.size:Int):=by omega
        have hs3:=q0k s i 3 ((i:Int)+3) V0 hl3;obtain ⟨S3,hS3⟩:∃ S3,S3=(s.data.toList.drop i).take 3:=⟨_,rfl⟩;have hne3:(S3==[60,60,60])=false:=by rw [hS3];simpa using h3
        rw [<-hS3] at hs3;clear hS3;exact V28
       ·by_cases hl2:i+2<=s.size
        ·have i3:¬ (i:Int)+3<=(s.size:Int):=by omega
         exact V28
        ·have i3:¬ (i:Int)+3<=(s.size:Int):=by omega
         have i2:¬ (i:Int)+2<=(s.size:Int):=V0;have h2:¬ (s.data.toList.drop i).take 2∈dz:=fun h=>by
          have hl2:((s.data.toList.drop i).take 2).length = 2:=by
           simp only [dz,List.mem_cons,List.not_mem_nil,or_false] at h;rcases h with h | h | h <;> rw [h] <;> rfl
          simp at hl2;omega
         have hs1:=q0k s i 1 ((i:Int)+1) V0 V0;rw [show (s.data.toList.drop i).take 1=[s[i]] by rw [drop_at s i hlt];rfl] at hs1;by_cases h1:s[i]∈signs1
         ·have ht:aW s[i] (s.data.toList.drop (i+1))=some (4,1):=by
           exact V3z
          have HI1:=Hi (in13 s[i] true VT);go_wp2_with fail
          refine (HLE.out _).mono ?_;rintro e w' ⟨rfl,rfl⟩;go_wp2_with fail
          refine (HNU.out _).mono ?_;rintro e w' ⟨rfl,rfl⟩;go_wp2_with fail
          refine (HI1.out ((wr.alloc (.cells #[.int .i64 4,.string ⟨#[]⟩,.int .i64 (i:Int)] 63))) (wr.heap.size+1) V3).mono ?_;rintro e w' ⟨rfl,rfl⟩;go_upto_region 26 with fail
          clear hs1;obtain ⟨W6,hW6⟩:∃ W6,W6=(wr.alloc (.cells #[.int .i64 4,.string ⟨#[]⟩,.int .i64 (i:Int)] 63)).alloc (.cells #[.string ⟨#[61]⟩,.string ⟨#[59]⟩,.string ⟨#[44]⟩,.string ⟨#[40]⟩,.string ⟨#[41]⟩,.string ⟨#[123]⟩,.string ⟨#[125]⟩,.string ⟨#[43]⟩,.string ⟨#[45]⟩,.string ⟨#[38]⟩,.string ⟨#[124]⟩,.string ⟨#[94]⟩,.string ⟨#[126]⟩] 9):=⟨_,rfl⟩;have HX:=Hi (show Aa W6 wr.heap.size 63 #[.int .i64 4,.string ⟨#[]⟩,.int .i64 (i:Int)] by rw [hW6];exact (Aa.new _ _ _).alloc _);have HU:=Hi (show Upd (fun _=>False) wr W6 from V4i);exact V2v
         ·have HL:=Hi fun w' hb=>words_err' (q3O HH.out.2.2 hlt (by
           unfold aW;rw [hl,hn,if_neg V2,if_neg V2,<-drop_at s i hlt,if_neg h3,if_neg h2,if_neg h1])) w w' hb
          have HBE:=Hi (show Below w.heap.size w ((wr.alloc (.cells #[.int .i64 4,.string ⟨#[]⟩,.int .i64 (i:Int)] 63)).alloc (.cells #[.string ⟨#[61]⟩,.string ⟨#[59]⟩,.string ⟨#[44]⟩,.string ⟨#[40]⟩,.string ⟨#[41]⟩,.string ⟨#[123]⟩,.string ⟨#[125]⟩,.string ⟨#[43]⟩,.string ⟨#[45]⟩,.string ⟨#[38]⟩,.string ⟨#[124]⟩,.string ⟨#[94]⟩,.string ⟨#[126]⟩] 9)) from HH.out.2.1.trans ((((Upd.refl (fun _=>False) wr).alloc _).alloc _).below hsz0 nofun));have HI1:=Hi (in13 s[i] false VT);go_wp2_with fail
          refine (HLE.out _).mono ?_;rintro e w' ⟨rfl,rfl⟩;go_wp2_with fail
          refine (HNU.out _).mono ?_;rintro e w' ⟨rfl,rfl⟩;go_wp2_with fail
          refine (HI1.out ((wr.alloc (.cells #[.int .i64 4,.string ⟨#[]⟩,.int .i64 (i:Int)] 63))) (wr.heap.size+1) V3).mono ?_;exact V1t
   case rest=>
    obtain ⟨k,m,hv8,HC⟩:=hcut;obtain ⟨_,ht,hbx,hux⟩:=HC.out;subst hv8;have HT:=Hi ht;have HX7:=Hi hbx;have HU7:=Hi hux;have him:i+m<=s.size:=(q14 ht hlt).2;have hm1:1<=m:=(q14 ht hlt).1;have HB7:=Hi (show Below w.heap.size w wc from HH.out.2.1.trans (hux.below hsz0 nofun));obtain ⟨S,hS⟩:∃ S,S=(s.data.toList.drop i).take m:=⟨_,rfl⟩;rw [<-hS] at HX7;have HSS:=Hi hS;have hsz7:w.heap.size<=wc.heap.size:=HB7.out.size;clear hS ht hbx hux HC;by_cases h4:L.length = 4000
    ·have HL:=Hi fun w' hb=>words_err' (q8e HH.out.2.2 hlt HT.out h4) w w' hb
     have i4:decide ((L.length:Int) = 4000)=true:=V4;have i4':((L.length:Int)==4000)=true:=V4;go_wp2_with fail
     go_ret3
     exact HL.out _ HB7.out
    ·obtain ⟨hF,_,_⟩:=q8f HH.out.2.2 hlt HT.out h4;rw [<-HSS.out] at hF;have HF:=Hi hF;clear hF;have i4:decide ((L.length:Int) = 4000)=false:=V4;have i4':((L.length:Int)==4000)=false:=V4;have i6:((i:Int)==(s.size:Int))=false:=V4;obtain ⟨W7,hW7⟩:∃ W7,W7=wc:=⟨_,rfl⟩;rw [<-hW7] at HX7 HU7 HB7 hsz7 ⊢;clear hW7;have HOW:=Hi (show OwnT w.heap.size W7 A c L from q7b HH.out.1 HU7.out fun _ _ _ h=>h);have HBW:=Hi HB7.out;have g0:W7.cell? ⟨wr.heap.size,0,none⟩=some (.int .i64 (k:Int)):=HX7.out.cell 0;have g1:W7.cell? ⟨wr.heap.size,1,none⟩=some (.string ⟨S.toArray⟩):=HX7.out.cell 1;have g2:W7.cell? ⟨wr.heap.size,2,none⟩=some (.int .i64 (i:Int)):=HX7.out.cell 2;have HLI:=Hi (show Af (W7.alloc (.cells #[.int .i64 (k:Int),.string ⟨S.toArray⟩,.int .i64 (i:Int)] 63)) (some ⟨W7.heap.size,0,none⟩) [.int .i64 (k:Int),.string ⟨S.toArray⟩,.int .i64 (i:Int)] from fun j u hj=>⟨_,rfl,by
      rw [Args.add_plain,Nat.zero_add,World.cell?_alloc_at _ _ _ _ rfl];simpa using hj⟩)
     have HOA:=Hi (show (W7.alloc (.cells #[.int .i64 (k:Int),.string ⟨S.toArray⟩,.int .i64 (i:Int)] 63)).ownsRow w.heap.size 63 3 (.slice A L.length c) L.length (L.flatMap tkC) from World.ownsRow.alloc HOW.out _);have HBS:=Hi (show w.heap.size<=(W7.alloc (.cells #[.int .i64 (k:Int),.string ⟨S.toArray⟩,.int .i64 (i:Int)] 63)).heap.size from V4);have HOBB:=Hi (show ∀ q,(Value.slice A L.length c).ownBlock=some q->w.heap.size<=q from fun q hq=>(World.ownsRow.lt (show W7.ownsRow w.heap.size 63 3 (.slice A L.length c) L.length (L.flatMap tkC) from HOW.out) q hq).1);go_wp2_with (at_builtin;refine q2k rfl _ _ 55 rfl w.heap.size 63 i0 (.agg #[.int .i64 0,.string ⟨#[]⟩,.int .i64 0]) 3 32 Tryz.underlying55 HI.out HZ0.out HZ1.out HZ2.out rfl V2 _ L.length _ rfl HOA.out (some ⟨W7.heap.size,0,none⟩) 1 1 [.int .i64 (k:Int),.string ⟨S.toArray⟩,.int .i64 (i:Int)] rfl rfl HLI.out V0s V6 V0 HBS.out ?_;intro A8 c8 w8 h2 h3 h4 h5;have H4:=Hi h4;have H5:=Hi h5;clear h2 h3 h4 h5)
     have HKW:=Hi (show Calls Tryz.prog 48 #[.string s,.int .i64 ((i+m:Nat):Int)] w8 (fun e w'=>e = .returned (.int .i64 ((i+m+aj false (s.data.toList.drop (i+m)):Nat):Int))/\w8=w') from skip s (i+m) him V0 w8);have hskl:=q0I false (s.data.toList.drop (i+m));rw [List.length_drop,hsz] at hskl;go_wp2_with fail
     refine HKW.out.mono ?_;rintro e w' ⟨rfl,rfl⟩;go_wp2_with fail
     go_roundw
     case rel=>exact ⟨i+m+aj false (s.data.toList.drop (i+m)),A8,c8,L ++ [⟨k,S,i⟩],V3,rfl,⟨V0,V4⟩,Hi ⟨by unfold OwnT;rw [List.length_append,List.flatMap_append];exact H4.out,(HBW.out.alloc hsz7 _).grown H5.out HBS.out HOBB.out,HF.out⟩⟩
     case measure=>simp [intOf];omega
end Lx
end Go.Proofs.YtcgibpdjfgjldaaGreatDoor
