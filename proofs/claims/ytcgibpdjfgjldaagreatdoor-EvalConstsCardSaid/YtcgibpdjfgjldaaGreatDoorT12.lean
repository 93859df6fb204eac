/- DERIVED. Shelf, LxPb, LxPs, LxSq. By an AI agent. -/
import Derived.Test.YtcgibpdjfgjldaaGreatDoorT11
import Derived.Test.YtcgibpdjfgjldaaGreatDoorProg
import Derived.Shelf.Strings.Trim
import Derived.Shelf.Small.Utf8
import Derived.Shelf.Small.Strs
import Derived.Shelf.Small.Wraps
import Derived.Shelf.Strings.Search1
import Derived.Shelf.Strings.Search2
import Derived.Shelf.Strings.Search3
import Derived.Shelf.Strings.Cut
import Derived.Shelf.LaysM
import Derived.Shelf.Strings.Shaped
import Derived.Shelf.Strings.Prefix
import Derived.Shelf.Unicode.Decode
import Derived.Shelf.Strings.Runes
import Derived.Shelf.Strings.AsciiSet
import Derived.Shelf.Unicode.DecodeSlow
import Derived.Shelf.Unicode.DecodeAny
import Derived.Shelf.Slices.Turned
import Derived.Shelf.Strings.SlTrimAscii
import Derived.Lib.Walk
import Derived.Lib.Slices
import Derived.RangeFuncBound
import Derived.RangeFuncCalls
import Derived.RangeFuncLeaves
import Derived.Shelf.Abstract
import Derived.Shelf.RegionOpen
import Derived.TacticsInMore
import Derived.LoopNIn
import Derived.LoopIn
set_option maxRecDepth 100000
set_option maxHeartbeats 2000000
set_option linter.unusedVariables false
set_option linter.unusedSimpArgs false
namespace Go.Proofs
open Go.Shelf Go.Proofs.YtcgibpdjfgjldaaGreatDoor
section
def Tryz.lays161_ren:Go.Shelf.Ren:=⟨fun | 161=>176 | 231=>195 | 227=>196 | 233=>197 | 235=>198 | 228=>207 | 197=>208 | 151=>209 | 260=>215 | 152=>216 | 137=>222 | 119=>223 | 224=>219 | 225=>218 | 217=>217 | 266=>224 | n=>n,fun | 9=>9 | 4=>4 | 3=>3 | 5=>5 | 117=>236 | 116=>235 | 0=>0 | 124=>239 | 105=>242 | 21=>21 | 119=>252 | 46=>208 | 139=>255 | 138=>254 | n=>n,fun | 3=>1 | 4=>2 | n=>n⟩
theorem Tryz.lays161:Go.Proofs.Lays.n161 Tryz.prog Tryz.lays161_ren:={
 mixed:=V1
 f119:=Tryz.func223.trans (congrArg some V1)
 f137:=Tryz.func222.trans (congrArg some V1)
 f151:=Tryz.func209.trans (congrArg some V1)
 f152:=Tryz.func216.trans (congrArg some V1)
 f161:=Tryz.func176.trans (congrArg some V1)
 f197:=Tryz.func208.trans (congrArg some V1)
 f217:=Tryz.func217.trans (congrArg some V1)
 f224:=Tryz.func219.trans (congrArg some V1)
 f225:=Tryz.func218.trans (congrArg some V1)
 f227:=Tryz.func196.trans (congrArg some V1)
 f228:=Tryz.func207.trans (congrArg some V1)
 f231:=Tryz.func195.trans (congrArg some V1)
 f233:=Tryz.func197.trans (congrArg some V1)
 f235:=Tryz.func198.trans (congrArg some V1)
 f260:=Tryz.func215.trans (congrArg some V1)
 f266:=Tryz.func224.trans (congrArg some V1)
 t0:=Tryz.underlying0
 a0:=Tryz.isAgg0
 z0:=Tryz.sizeOf0
 v0:=Tryz.zeroValue0
 t3:=Tryz.underlying3
 a3:=Tryz.isAgg3
 z3:=Tryz.sizeOf3
 v3:=Tryz.zeroValue3
 t4:=Tryz.underlying4
 a4:=Tryz.isAgg4
 z4:=Tryz.sizeOf4
 v4:=Tryz.zeroValue4
 t5:=Tryz.underlying5
 a5:=Tryz.isAgg5
 z5:=Tryz.sizeOf5
 v5:=Tryz.zeroValue5
 t9:=Tryz.underlying9
 a9:=Tryz.isAgg9
 z9:=Tryz.sizeOf9
 v9:=Tryz.zeroValue9
 t21:=Tryz.underlying21
 a21:=Tryz.isAgg21
 z21:=Tryz.sizeOf21
 v21:=Tryz.zeroValue21
 t46:=Tryz.underlying208
 a46:=Tryz.isAgg208
 z46:=Tryz.sizeOf208
 v46:=Tryz.zeroValue208
 t105:=Tryz.underlying242
 a105:=Tryz.isAgg242
 z105:=Tryz.sizeOf242
 v105:=Tryz.zeroValue242
 t116:=Tryz.underlying235
 a116:=Tryz.isAgg235
 z116:=Tryz.sizeOf235
 t117:=Tryz.underlying236
 a117:=Tryz.isAgg236
 z117:=Tryz.sizeOf236
 v117:=Tryz.zeroValue236
 t119:=Tryz.underlying252
 a119:=Tryz.isAgg252
 z119:=Tryz.sizeOf252
 t124:=Tryz.underlying239
 a124:=Tryz.isAgg239
 z124:=Tryz.sizeOf239
 v124:=Tryz.zeroValue239
 t138:=Tryz.underlying254
 a138:=Tryz.isAgg254
 z138:=Tryz.sizeOf254
 v138:=Tryz.zeroValue254
 t139:=Tryz.underlying255
 a139:=Tryz.isAgg255
 z139:=Tryz.sizeOf255
 v139:=Tryz.zeroValue255
 g3:=V1
 g4:=by kernel_rfl }
open Go.RowKit in
def Tryz.lays103_ren:Go.Shelf.Ren:=⟨fun | 103=>213 | 210=>221 | 206=>199 | n=>n,fun | 9=>9 | 4=>4 | 24=>246 | 3=>3 | n=>n,fun | n=>n⟩
theorem Tryz.lays103:Go.Proofs.Lays.n103 Tryz.prog Tryz.lays103_ren:={
 mixed:=V1
 f103:=Tryz.func213.trans (congrArg some V1)
 f206:=Tryz.func199.trans (congrArg some V1)
 f210:=Tryz.func221.trans (congrArg some V1)
 t3:=Tryz.underlying3
 a3:=Tryz.isAgg3
 z3:=Tryz.sizeOf3
 v3:=Tryz.zeroValue3
 t4:=Tryz.underlying4
 a4:=Tryz.isAgg4
 z4:=Tryz.sizeOf4
 v4:=Tryz.zeroValue4
 t9:=Tryz.underlying9
 a9:=Tryz.isAgg9
 z9:=Tryz.sizeOf9
 v9:=Tryz.zeroValue9
 t24:=Tryz.underlying246
 a24:=Tryz.isAgg246
 z24:=Tryz.sizeOf246
 v24:=Tryz.zeroValue246 }
open Go.RowKit in
theorem Tryz.strings_CutPrefix(s p:ByteArray)(w:World) :
  Calls Tryz.prog 213 #[.string s,.string p] w fun e w'=>e = .returned (.tuple #[.string ⟨(Lib.trimPrefix s.data.toList p.data.toList).toArray⟩,.bool (Lib.hasPrefix s.data.toList p.data.toList)])/\w'=w:=Any.strings_CutPrefix Tryz.lays103 s p w
def Tryz.lays219_ren:Go.Shelf.Ren:=⟨fun | 219=>210 | 217=>217 | 225=>218 | 224=>219 | 267=>220 | 266=>224 | 314=>225 | n=>n,fun | 9=>9 | 3=>3 | 4=>4 | 5=>5 | 46=>208 | 146=>257 | 51=>22 | n=>n,fun | 1=>0 | n=>n⟩
theorem Tryz.lays219:Go.Proofs.Lays.n219 Tryz.prog Tryz.lays219_ren:={
 mixed:=V1
 f217:=Tryz.func217.trans (congrArg some V1)
 f219:=Tryz.func210.trans (congrArg some V1)
 f224:=Tryz.func219.trans (congrArg some V1)
 f225:=Tryz.func218.trans (congrArg some V1)
 f266:=Tryz.func224.trans (congrArg some V1)
 f267:=Tryz.func220.trans (congrArg some V1)
 f314:=Tryz.func225.trans (congrArg some V1)
 t3:=Tryz.underlying3
 a3:=Tryz.isAgg3
 z3:=Tryz.sizeOf3
 v3:=Tryz.zeroValue3
 t4:=Tryz.underlying4
 a4:=Tryz.isAgg4
 z4:=Tryz.sizeOf4
 v4:=Tryz.zeroValue4
 t5:=Tryz.underlying5
 a5:=Tryz.isAgg5
 z5:=Tryz.sizeOf5
 v5:=Tryz.zeroValue5
 t9:=Tryz.underlying9
 a9:=Tryz.isAgg9
 z9:=Tryz.sizeOf9
 v9:=Tryz.zeroValue9
 t46:=Tryz.underlying208
 a46:=Tryz.isAgg208
 z46:=Tryz.sizeOf208
 v46:=Tryz.zeroValue208
 t51:=Tryz.underlying22
 a51:=Tryz.isAgg22
 z51:=Tryz.sizeOf22
 v51:=Tryz.zeroValue22
 t146:=Tryz.underlying257
 a146:=Tryz.isAgg257
 z146:=Tryz.sizeOf257
 v146:=Tryz.zeroValue257
 g1:=by kernel_rfl }
open Go.RowKit Go.Lib in
theorem Tryz.stringslite_Index_one(s:ByteArray)(c:UInt8)(w:World) :
  Calls Tryz.prog 210 #[.string s,.string ⟨#[c]⟩] w fun e w'=>e = .returned (.int .i64 (Lib.indexByte s.data.toList c))/\w'=w:=Any.stringslite_Index_one Tryz.lays219 s c w
def Tryz.lays143_ren:Go.Shelf.Ren:=⟨fun | 143=>212 | 219=>210 | 217=>217 | 225=>218 | 224=>219 | 267=>220 | 266=>224 | 314=>225 | n=>n,fun | 9=>9 | 3=>3 | 4=>4 | 5=>5 | 46=>208 | 146=>257 | 51=>22 | n=>n,fun | 1=>0 | n=>n⟩
theorem Tryz.lays143:Go.Proofs.Lays.n143 Tryz.prog Tryz.lays143_ren:={
 mixed:=V1
 f143:=Tryz.func212.trans (congrArg some V1)
 f217:=Tryz.func217.trans (congrArg some V1)
 f219:=Tryz.func210.trans (congrArg some V1)
 f224:=Tryz.func219.trans (congrArg some V1)
 f225:=Tryz.func218.trans (congrArg some V1)
 f266:=Tryz.func224.trans (congrArg some V1)
 f267:=Tryz.func220.trans (congrArg some V1)
 f314:=Tryz.func225.trans (congrArg some V1)
 t3:=Tryz.underlying3
 a3:=Tryz.isAgg3
 z3:=Tryz.sizeOf3
 v3:=Tryz.zeroValue3
 t4:=Tryz.underlying4
 a4:=Tryz.isAgg4
 z4:=Tryz.sizeOf4
 v4:=Tryz.zeroValue4
 t5:=Tryz.underlying5
 a5:=Tryz.isAgg5
 z5:=Tryz.sizeOf5
 v5:=Tryz.zeroValue5
 t9:=Tryz.underlying9
 a9:=Tryz.isAgg9
 z9:=Tryz.sizeOf9
 v9:=Tryz.zeroValue9
 t46:=Tryz.underlying208
 a46:=Tryz.isAgg208
 z46:=Tryz.sizeOf208
 v46:=Tryz.zeroValue208
 t51:=Tryz.underlying22
 a51:=Tryz.isAgg22
 z51:=Tryz.sizeOf22
 v51:=Tryz.zeroValue22
 t146:=Tryz.underlying257
 a146:=Tryz.isAgg257
 z146:=Tryz.sizeOf257
 v146:=Tryz.zeroValue257
 g1:=by kernel_rfl }
open Go.RowKit Go.Lib in
theorem Tryz.strings_Index_one(s:ByteArray)(c:UInt8)(w:World) :
  Calls Tryz.prog 212 #[.string s,.string ⟨#[c]⟩] w fun e w'=>e = .returned (.int .i64 (Lib.indexByte s.data.toList c))/\w'=w:=Any.strings_Index_one Tryz.lays143 s c w
def Tryz.lays99_ren:Go.Shelf.Ren:=⟨fun | 99=>177 | 206=>199 | n=>n,fun | 9=>9 | 4=>4 | 3=>3 | n=>n,fun | n=>n⟩
theorem Tryz.lays99:Go.Proofs.Lays.n99 Tryz.prog Tryz.lays99_ren:={
 mixed:=V1
 f99:=Tryz.func177.trans (congrArg some V1)
 f206:=Tryz.func199.trans (congrArg some V1)
 t3:=Tryz.underlying3
 a3:=Tryz.isAgg3
 z3:=Tryz.sizeOf3
 v3:=Tryz.zeroValue3
 t4:=Tryz.underlying4
 a4:=Tryz.isAgg4
 z4:=Tryz.sizeOf4
 v4:=Tryz.zeroValue4
 t9:=Tryz.underlying9
 a9:=Tryz.isAgg9
 z9:=Tryz.sizeOf9
 v9:=Tryz.zeroValue9 }
open Go.RowKit Go.Lib in
theorem Tryz.strings_HasPrefix(s p:ByteArray)(w:World) :
  Calls Tryz.prog 177 #[.string s,.string p] w fun e w'=>e = .returned (.bool (Lib.hasPrefix s.data.toList p.data.toList))/\w'=w:=Any.strings_HasPrefix Tryz.lays99 s p w
end
end Go.Proofs
namespace Go.Proofs.YtcgibpdjfgjldaaGreatDoor
namespace Lx
open Go Go.ChangeShapes Go.WideShapes Go.ChangeAt Go.RowKit Args
theorem run_all{S:Bs}(h:S.all (onB true)=true):S.take (runL true S)=S:=by
 have:runL true S=S.length:=by
  induction S with
  | nil=>rfl
  | cons c r ih=>
   rw [List.all_cons,Bool.and_eq_true] at h;rw [q0g,if_pos h.1,ih h.2];rfl
 rw [this,List.take_length]
theorem all_run{S:Bs}(h:S.take (runL true S)=S):S.all (onB true)=true:=by
 have key:∀ S:Bs,(S.take (runL true S)).all (onB true)=true:=fun S=>by
  exact V32
 have:=key S
 rwa [h] at this
theorem pname(s:ByteArray)(hs:s.size<=140737488351232)(w:World) :
  Calls Tryz.prog 202 #[.string s] w fun e w'=>e = .returned (.bool (nameB s.data.toList))/\w=w':=by
 obtain ⟨b,hb⟩:∃ b,nameB s.data.toList=b:=⟨_,rfl⟩;rw [hb];by_cases h0:s.size = 0
 ·have hsn:s=⟨#[]⟩:=by
   apply ByteArray.ext;exact Array.eq_empty_of_size_eq_zero h0
  subst hsn;have HB:b=false:=hb.symm;subst HB;clear hb;go_enter Tryz.func202,Tryz.ntmps202;exact V1f
 ·have h0':0 < s.size:=by omega
  have hcs:=q32 s h0';have hne:(s.toList==[])=false:=by rw [ByteArray.toList_eq,hcs];rfl
  have hl:s.data.toList.length=s.size:=V3;have hw:=pword s w;have hlt:=pletter s[0] w;have hrn:=prunT s hs w;have hb':b=(decide (s.size<=32) && letB s[0] && !wordB s.data.toList && s.data.toList.all (onB true)):=by
   rw [<-hb,<-hl];unfold nameB;rw [hcs]
  clear hb;cases hL:letB s[0] with
  | false=>
   rw [hL] at hlt hb';have HB:b=false:=by rw [hb'];simp
   subst HB;have HL:=Hi hlt;clear hlt hb' hw hrn hcs hl hL h0;go_enter Tryz.func202,Tryz.ntmps202;go_wp2_with fail
   refine HL.out.mono ?_;exact VU
  | true=>
   rw [hL] at hlt hb';have HL:=Hi hlt;cases hA:s.data.toList.all (onB true) with
   | false=>
    rw [hA] at hb';have HB:b=false:=by rw [hb'];simp
    subst HB;have htn:((⟨(s.data.toList.take (runL true s.data.toList)).toArray⟩:ByteArray).toList==s.toList)=false:=by
     rw [beq_eq_false_iff_ne,ByteArray.toList_eq,ByteArray.toList_eq];intro h;have:=all_run h;rw [hA] at this;cases this
    generalize (⟨(s.data.toList.take (runL true s.data.toList)).toArray⟩:ByteArray)=t at *;have HR:=Hi hrn;exact V31
   | true=>
    rw [hA] at hb';rw [run_all hA,show (⟨s.data.toList.toArray⟩:ByteArray)=s from rfl] at hrn;have HR:=Hi hrn;by_cases h32:s.size<=32
    ·have HB:b = !wordB s.data.toList:=by rw [hb'];simp [h32]
     have i1:decide ((s.size:Int)<=32)=true:=V4;generalize wordB s.data.toList=x at *;subst HB;have HW:=Hi hw;clear hlt hb' hw hrn hcs hl hL h0 hA;go_enter Tryz.func202,Tryz.ntmps202;go_wp2_with fail
     refine HL.out.mono ?_;rintro e w' ⟨rfl,rfl⟩;go_wp2_with fail
     refine HR.out.mono ?_;rintro e w' ⟨rfl,rfl⟩;go_wp2_with fail
     refine HW.out.mono ?_;exact VU
    ·have HB:b=false:=by rw [hb'];simp;omega
     have i1:decide ((s.size:Int)<=32)=false:=V4;subst HB;exact V31
def FtV(o:Option (Nat×Bs)):Value:=match o with
 | some (k,t)=>.tuple #[.agg #[.int .i64 (k:Int),.string ⟨t.toArray⟩,.int .i64 0],.int .i64 0]
 | none=>.tuple #[.agg #[.int .i64 0,.string ⟨#[]⟩,.int .i64 0],.int .i64 100]
def namedL(S:Bs):Option (Nat×Bs):=if wordB S=true then some (3,S) else if nameB S=true then some (1,S) else none
theorem loadT{w:World}{g:Nat}{a b c:Value}(h:Blk w g 63 #[a,b,c]):(loadVar 63 ⟨g,0,none⟩).run Tryz.prog w = .ok (.agg #[a,b,c]) w:=
 run_loadVar_row w g _ _ _ (0,0) _ h Tryz.underlying63 rfl V1
theorem pnamed(s:ByteArray)(hs:s.size<=100000)(w:World) :
  Calls Tryz.prog 180 #[.string s] w fun e w'=>e = .returned (FtV (namedL s.data.toList))/\Below w.heap.size w w':=by
 have hw:=pword s;have hn:=pname s V0;cases hW:wordB s.data.toList with
 | true=>
  rw [hW] at hw;have HV:=Hi (show FtV (namedL s.data.toList) = .tuple #[.agg #[.int .i64 3,.string s,.int .i64 0],.int .i64 0] by unfold namedL;rw [if_pos hW];rfl);generalize FtV (namedL s.data.toList)=V at *;have HW:=Hi hw;clear hw hn hW;go_enter Tryz.func180,Tryz.ntmps180;go_wp2_with fail
  refine (HW.out _).mono ?_;rintro e w' ⟨rfl,rfl⟩;go_wp2_with fail
  refine bodyPost_ret (q2Z rfl _ _ w.heap.size _ rfl (loadT (Blk.new _ _ _))) rfl ?_;exact ⟨(congrArg Ending.returned HV.out).symm,(Below.refl _ _).alloc (Nat.le_refl _) _⟩
 | false=>
  rw [hW] at hw;cases hN:nameB s.data.toList with
  | false=>
   rw [hN] at hn;have HV:=Hi (show FtV (namedL s.data.toList) = .tuple #[.agg #[.int .i64 0,.string ⟨#[]⟩,.int .i64 0],.int .i64 100] by unfold namedL;rw [if_neg (by rw [hW];decide),if_neg (by rw [hN];decide)];rfl);exact V2i
  | true=>
   rw [hN] at hn;have HV:=Hi (show FtV (namedL s.data.toList) = .tuple #[.agg #[.int .i64 1,.string s,.int .i64 0],.int .i64 0] by unfold namedL;rw [if_neg (by rw [hW];decide),if_pos hN];rfl);exact V2i
theorem trim(s:ByteArray)(w:World):Calls Tryz.prog 176 #[.string s,.string ⟨#[32,9,10]⟩] w fun e w'=>e = .returned (.string ⟨(s.data.toList.dropWhile (blk3.contains ·)).toArray⟩)/\Below w.heap.size w w':=
 Any.strings_TrimLeft_laid Tryz.lays161 V1 s ⟨#[32,9,10]⟩ w V2 (fun j b hj=>by
  have hm:=List.mem_of_getElem? hj;simp at hm;rcases hm with rfl | rfl | rfl <;> decide)
theorem q8w:∀ (r:Bs),(Lib.indexByte r 10 = -1/\aft r=[])\/∃ i:Nat,Lib.indexByte r 10=i/\i < r.length/\aft r=r.drop (i+1)
 | []=>.inl ⟨rfl,rfl⟩
 | d :: r=>by
  have e:Lib.indexByte (d :: r) 10=if d==10 then 0 else if Lib.indexByte r 10==-1 then -1 else Lib.indexByte r 10+1:=rfl
  have e2:aft (d :: r)=if d==10 then r else aft r:=rfl
  by_cases hd:(d==10)=true
  ·exact .inr ⟨0,by rw [e,if_pos hd];rfl,V3,by rw [e2,if_pos hd];rfl⟩
  ·rcases q8w r with ⟨h1,h2⟩ | ⟨i,h1,h2,h3⟩
   ·exact .inl ⟨by rw [e,if_neg hd,h1];rfl,by rw [e2,if_neg hd,h2]⟩
   ·refine .inr ⟨i+1,?_,V4,by rw [e2,if_neg hd,h3];rfl⟩;rw [e,if_neg hd,h1,if_neg (by rw [beq_iff_eq];omega)];push_cast;rfl
theorem cutlite(s:ByteArray)(hs:s.size<=100000)(w:World):Calls Tryz.prog 200 #[.string s,.string ⟨#[10]⟩] w fun e w'=>(∃ a b,e = .returned (.tuple #[.string a,.string ⟨(aft s.data.toList).toArray⟩,.bool b]))/\∃ n,w'=w.drewN n:=by
 have hx:=Tryz.stringslite_Index_one s 10 w;rcases q8w s.data.toList with ⟨h1,h2⟩ | ⟨i,h1,h2,h3⟩
 ·rw [h1] at hx;rw [h2];have HX:=Hi hx;clear hx h1 h2;go_enter Tryz.func200,Tryz.ntmps200;go_wp2_with fail
  refine HX.out.mono ?_;rintro e w' ⟨rfl,rfl⟩;go_wp2_with fail
  go_ret3
  exact ⟨⟨_,_,rfl⟩,0,rfl⟩
 ·rw [h1] at hx;have hsz:s.data.toList.length=s.size:=V3;have hil:i+1<=s.size:=V0;have hex:(⟨(aft s.data.toList).toArray⟩:ByteArray)=s.extract (i+1) s.size:=by
   rw [h3,Lib.extract_eq]
   congr 2
   rw [List.take_of_length_le];rw [List.length_drop];simp
  rw [hex];have HX:=Hi hx;clear hx h1 h2 h3 hex;go_enter Tryz.func200,Tryz.ntmps200;go_wp2_with fail
  refine HX.out.mono ?_;rintro e w' ⟨rfl,rfl⟩;go_wp2_with fail
  go_quiet (fail)
  go_wp2_with fail
  go_ret3
  exact ⟨⟨_,_,rfl⟩,nq,rfl⟩
theorem cut(s:ByteArray)(hs:s.size<=100000)(w:World):Calls Tryz.prog 178 #[.string s,.string ⟨#[10]⟩] w fun e w'=>(∃ a b,e = .returned (.tuple #[.string a,.string ⟨(aft s.data.toList).toArray⟩,.bool b]))/\∃ n,w'=w.drewN n:=by
 have HX:=Hi (cutlite s hs w);generalize (⟨(aft s.data.toList).toArray⟩:ByteArray)=t at *;go_enter Tryz.func178,Tryz.ntmps178;go_wp2_with fail
 refine HX.out.mono ?_;rintro e w' ⟨⟨a,b,rfl⟩,n,rfl⟩;go_wp2_with fail
 go_ret3
 exact ⟨⟨_,_,rfl⟩,n,rfl⟩
def szOf:Value->Nat
 | .string t=>t.size
 | _=>0
theorem q1t(l:Bs):(⟨l.toArray⟩:ByteArray).size=l.length:=by show l.toArray.size=_;simp
theorem has(s p:ByteArray)(w:World):Calls Tryz.prog 177 #[.string s,.string p] w fun e w'=>e = .returned (.bool (p.data.toList.isPrefixOf s.data.toList))/\w=w':=
 (Tryz.strings_HasPrefix s p w).mono fun e w' ⟨h1,h2⟩=>⟨h1,h2.symm⟩
def PsI(R:Bs)(n:Nat)(t:ByteArray):Prop:=(∃ r:Bs,r.dropWhile (blk3.contains ·)=t.data.toList)/\restL t.data.toList=R/\t.size<=n
theorem passed(s:ByteArray)(hs:s.size<=100000)(w:World):Calls Tryz.prog 156 #[.string s] w fun e w'=>e = .returned (.string ⟨(restL s.data.toList).toArray⟩)/\Below w.heap.size w w':=by
 obtain ⟨R,hR⟩:∃ R,restL s.data.toList=R:=⟨_,rfl⟩;rw [hR];have ht:=trim s w;have hdl:(s.data.toList.dropWhile (blk3.contains ·)).length<=s.size:=by
  have:=(List.dropWhile_sublist (l:=s.data.toList) (blk3.contains ·)).length_le;simpa using this
 have hI:PsI R 100000 ⟨(s.data.toList.dropWhile (blk3.contains ·)).toArray⟩:=⟨⟨_,rfl⟩,by show restL (s.data.toList.dropWhile (blk3.contains ·))=R;rw [q2y,hR],V0n⟩;generalize (⟨(s.data.toList.dropWhile (blk3.contains ·)).toArray⟩:ByteArray)=t0 at *;have HT:=Hi ht;have HI:=Hi hI;clear ht hI hR hdl;go_enter Tryz.func156,Tryz.ntmps156;go_wp2_with fail
 refine HT.out.mono ?_;rintro e w1 ⟨rfl,hb1⟩;have HB1:=Hi hb1;clear hb1;go_wp2_with fail
 go_loopw [0] (fun vi wr=>∃ t:ByteArray,vi = .string t/\Hid (PsI R 100000 t)/\Hid (Below w.heap.size w wr)) (fun vi _=>szOf vi)
 case atStart=>exact ⟨t0,rfl,HI,HB1⟩
 case round=>
  obtain ⟨t,rfl,HP,HW⟩:=hrel;obtain ⟨⟨r,hr⟩,hrest,hsz⟩:=HP.out;have hsw:=HW.out.size;cases hp:([47,47]:Bs).isPrefixOf t.data.toList with
  | false=>
   have hh:=has t ⟨#[47,47]⟩ wr;rw [show (⟨#[47,47]⟩:ByteArray).data.toList=[47,47] from rfl,hp] at hh;have hE:=q5Q hr hp;have HH:=Hi hh;have HE:=Hi (show (⟨R.toArray⟩:ByteArray)=t by rw [<-hrest,hE]);clear hh hE hr hrest hp HP;go_wp2_with fail
   refine HH.out.mono ?_;rintro e w' ⟨rfl,rfl⟩;go_wp2_with fail
   go_ret;exact ⟨by rw [HE.out] <;> rfl,HW.out⟩
  | true=>
   have hh:=has t ⟨#[47,47]⟩ wr;rw [show (⟨#[47,47]⟩:ByteArray).data.toList=[47,47] from rfl,hp] at hh;obtain ⟨c1,c2⟩:=rest_cm hp;have hcut:=cut t hsz wr;have htl:t.data.toList.length=t.size:=V3;obtain ⟨q,hq⟩:∃ q:ByteArray,(⟨(aft t.data.toList).toArray⟩:ByteArray)=q:=⟨_,rfl⟩;have hqd:q.data.toList=aft t.data.toList:=by rw [<-hq]
   have hqs:q.size=(aft t.data.toList).length:=by rw [<-hq,q1t]
   rw [hq] at hcut;have htr:=fun W=>trim q W
   have hdl:(q.data.toList.dropWhile (blk3.contains ·)).length<=q.size:=by
    have:=(List.dropWhile_sublist (l:=q.data.toList) (blk3.contains ·)).length_le;simpa using this
   have hI:PsI R 100000 ⟨(q.data.toList.dropWhile (blk3.contains ·)).toArray⟩:=⟨⟨_,rfl⟩,by show restL (q.data.toList.dropWhile (blk3.contains ·))=R;rw [q2y,hqd,<-c1,hrest],V0n⟩;have hms:(⟨(q.data.toList.dropWhile (blk3.contains ·)).toArray⟩:ByteArray).size < t.size:=V0n;generalize (⟨(q.data.toList.dropWhile (blk3.contains ·)).toArray⟩:ByteArray)=t2 at *;have HH:=Hi hh;have HC:=Hi hcut;have HT2:=Hi htr;have HI2:=Hi hI;clear hh hcut htr hI hr hrest hp HP c1 c2 hq hqd hqs hdl htl;go_wp2_with fail
   refine HH.out.mono ?_;rintro e w' ⟨rfl,rfl⟩;go_wp2_with fail
   refine HC.out.mono ?_;rintro e w' ⟨⟨a,b,rfl⟩,n,rfl⟩;have HW2:=Hi (show Below w.heap.size w (wr.drewN n) from q0f HW.out n);have hsw2:w.heap.size<=(wr.drewN n).heap.size:=hsw;generalize wr.drewN n=w2 at *;clear HC HH;go_wp2_with fail
   refine (HT2.out _).mono ?_;rintro e w3 ⟨rfl,hb3⟩;have HW3:=Hi (show Below w.heap.size w w3 from HW2.out.trans (hb3.mono hsw2));clear hb3;go_wp2_with fail
   go_round
   case rel=>exact ⟨t2,rfl,HI2,HW3⟩
   case measure=>exact hms
end Lx
namespace Lx
open Go Go.ChangeShapes Go.WideShapes Go.ChangeAt Go.RowKit Go.Shelf Args
section
attribute [local go_sem] Oper.semAt_some
theorem ext_to(R:Bs)(i:Nat):(⟨R.toArray⟩:ByteArray).extract 0 i=⟨(R.take i).toArray⟩:=by
 apply ByteArray.ext;apply Array.toList_inj.1;rw [ByteArray.data_extract];simp
theorem q7F(R:Bs)(i:Nat):(⟨R.toArray⟩:ByteArray).extract i R.length=⟨(R.drop i).toArray⟩:=by
 apply ByteArray.ext;apply Array.toList_inj.1;rw [ByteArray.data_extract];simp;exact List.take_of_length_le (by rw [List.length_drop];exact Nat.le_refl _)
theorem q7G(R:Bs)(i:Nat)(h:i<=R.length)(W:World):(Instr.slice 9 (.string ⟨R.toArray⟩) none (some (.int .i64 (i:Int))) none).run Tryz.prog W = .ok (.string ⟨(R.take i).toArray⟩) W:=by
 have hs:=q1t R;rw [run_slice_string_to_if W 9 ⟨R.toArray⟩ .i64 i Tryz.underlying9,if_pos ⟨V0,V0⟩,Int.toNat_natCast,ext_to]
theorem q33(R:Bs)(i:Nat)(h:i<=R.length)(W:World):(Instr.slice 9 (.string ⟨R.toArray⟩) (some (.int .i64 (i:Int))) none none).run Tryz.prog W = .ok (.string ⟨(R.drop i).toArray⟩) W:=by
 have hs:=q1t R;rw [run_slice_string_from_if W 9 ⟨R.toArray⟩ .i64 i Tryz.underlying9,if_pos ⟨V0,V0⟩,Int.toNat_natCast,hs,q7F]
def KB(B:Nat)(W W':World):Prop:=∀ k,B<=k->k<=B+2->W'.heap[k]?=W.heap[k]?
theorem kb_t{B:Nat}{X Y Z:World}(h:KB B X Y)(k:KB B Y Z):KB B X Z:=fun i h1 h2=>(k i h1 h2).trans (h i h1 h2)
theorem kb_b{B:Nat}{w:World}(hn:B+2 < w.heap.size)(W:World)(l:Nat)(o o':Obj)(hl:w.heap.size<=l)(h:W.heap[l]?=some o)(_:o.isCells=false):KB B W (W.putObj l o'):=
 fun k _ h2=>(grownBy_putObj' W l o').block k (by have:=(Array.getElem?_eq_some_iff.1 h).1;omega) (fun e=>Vb)
def strAt(w:World)(B:Nat):Nat:=match w.cell? ⟨B,0,none⟩ with | some v=>szOf v | none=>0
theorem q5c{w:World}{B:Nat}{R:Bs}(h:w.cell? ⟨B,0,none⟩=some (.string ⟨R.toArray⟩)):strAt w B=R.length:=by unfold strAt;rw [h];exact q1t R
theorem split1(n:Nat)(hn:1<=n)(l B:Nat)(c:UInt8)(L:Bs)(J Jx:List Bs->World->Prop)(hJ:Rt.Ab B J)
  (hY:∀ pre x W,J pre W->pre.length < (splitB c L).length->YieldAt Fence.wide (n - 1) Tryz.prog l #[.string ⟨x.toArray⟩] W fun e W'=>
   (e = .returned (.bool true)/\J (pre ++ [x]) W'/\KB B W W')\/(e = .returned (.bool false)/\Jx (pre ++ [x]) W'))
  (W:World) (hL:L.length<=1000000) (hS:Blk W B 9 #[.string ⟨L.toArray⟩]) (hE:W.cell? ⟨B+1,0,none⟩=some (.string ⟨#[c]⟩)) (hZ:W.cell? ⟨B+2,0,none⟩=some (.int .i64 0)) (h0:J [] W) :
  CallsIn Fence.wide n Tryz.prog 211 #[.func (.yield l) #[] #[],.pointer (some ⟨B+1,0,none⟩),.pointer (some ⟨B,0,none⟩),.pointer (some ⟨B+2,0,none⟩)] W fun e W'=>(∃ v,e = .returned v) /\
   ((∃ ys,ys=splitB c L/\J ys W')\/(∃ pre,pre <+: splitB c L/\Jx pre W')):=by
 refine callsIn_of_wp Tryz.func211 rfl trivial ?_ rfl;simp only [Tryz.ntmps211,List.size_toArray,List.length_cons,List.length_nil,Nat.reduceAdd,Nat.reduceSub,Array.replicate_succ,Array.replicate_zero,List.push_toArray,List.append_toArray,List.nil_append,List.cons_append];have HJ:=Hi hJ;have HY:=Hi hY;have HS:=Hi hS;have HE:=Hi hE;have HZ:=Hi hZ;have hIX:=Hi (fun R:Bs=>Tryz.strings_Index_one ⟨R.toArray⟩ c);clear hJ hY hS
 gi_wp2
 gi_loopw [7] (fun vr wr=>∃ (pre:List Bs) (R:Bs),vr=vr/\R.length<=1000000/\Hid (pre ++ splitB c R=splitB c L/\J pre wr/\Blk wr B 9 #[.string ⟨R.toArray⟩]/\wr.cell? ⟨B+1,0,none⟩=some (.string ⟨#[c]⟩)/\wr.cell? ⟨B+2,0,none⟩=some (.int .i64 0)))
  (fun _ wr=>strAt wr B)
 case atStart=>exact ⟨[],L,rfl,hL,Hi ⟨rfl,h0,HS.out,HE.out,HZ.out⟩⟩
 case round=>
  obtain ⟨pre,R,_,hR,HH⟩:=hrel;have c0:wr.cell? ⟨B,0,none⟩=some (.string ⟨R.toArray⟩):=HH.out.2.2.1.cell 0;have c1:=HH.out.2.2.2.1;have c2:=HH.out.2.2.2.2;have f0:=HH.out.2.2.1.frozen 0;rcases split_at c R with ⟨h1,h2⟩ | ⟨i,h1,h2,h3⟩
  ·have hx:=hIX.out R wr;rw [h1] at hx;have HX:=Hi hx;have hpre:=HH.out.1;rw [h2] at hpre;have HP:=Hi hpre;obtain ⟨fn,tmps,assign,body,hy,hRn⟩:=HY.out pre R wr HH.out.2.1 (by rw [<-hpre];simp);clear hx h1 h2 hpre
   gi_wp2_with (refine ⟨trivial,?_⟩;gi_at_call 212;refine (callsIn_wide.2 HX.out).mono ?_;rintro e w' ⟨rfl,rfl⟩)
   refine hRn.mono ?_;rintro e W3 (⟨rfl,hJ3,hk3⟩ | ⟨rfl,hJx3⟩)
   ·gi_wp2
    go_end0
    exact ⟨⟨_,rfl⟩,.inl ⟨_,HP.out,hJ3⟩⟩
   ·gi_wp2
    go_end0
    exact ⟨⟨_,rfl⟩,.inr ⟨_,⟨[],by rw [List.append_nil];exact HP.out⟩,hJx3⟩⟩
  ·have hx:=hIX.out R wr;rw [h1] at hx;have HX:=Hi hx;have hpre:=HH.out.1;rw [h3] at hpre;have HP:=Hi hpre;obtain ⟨fn,tmps,assign,body,hy,hRn⟩:=HY.out pre (R.take i) wr HH.out.2.1 (by rw [<-hpre];simp);have hsl:=q7G R i V0 wr;have hsf:∀ W,(Instr.slice 9 (.string ⟨R.toArray⟩) (some (.int .i64 ((i:Int)+1))) none none).run Tryz.prog W = .ok (.string ⟨(R.drop (i+1)).toArray⟩) W:=fun W=>by
    have:=q33 R (i+1) V0 W
    push_cast at this
    exact this
   have HSF:=Hi hsf;have hdl:(R.drop (i+1)).length < R.length:=V1Y;have i1:decide ((i:Int) < 0)=false:=V3;clear hx h1 hpre h3 hsf
   gi_wp2_with (refine ⟨trivial,?_⟩;gi_at_call 212;refine (callsIn_wide.2 HX.out).mono ?_;rintro e w' ⟨rfl,rfl⟩)
   refine hRn.mono ?_;rintro e W3 (⟨rfl,hJ3,hk3⟩ | ⟨rfl,hJx3⟩)
   ·have b3:Blk W3 B 9 #[.string ⟨R.toArray⟩]:=(hk3 B (Nat.le_refl _) V0).trans HH.out.2.2.1;have d0:W3.cell? ⟨B,0,none⟩=some (.string ⟨R.toArray⟩):=b3.cell 0;have d1:W3.cell? ⟨B+1,0,none⟩=some (.string ⟨#[c]⟩):=(World.cell?_of_block (a:=⟨B+1,0,none⟩) (hk3 (B+1) V0 V0)).trans c1;have d2:W3.cell? ⟨B+2,0,none⟩=some (.int .i64 0):=(World.cell?_of_block (a:=⟨B+2,0,none⟩) (hk3 (B+2) V0 V0)).trans c2;have g0:=b3.frozen 0;have hs3:=HSF.out W3;have HB3:=Hi b3;have hJ4:=HJ.out _ W3 _ (some B) hJ3 (grownBy_setCell' W3 B (.string ⟨(R.drop (i+1)).toArray⟩)) (fun r e=>Vu);have HJ4:=Hi hJ4;clear hJ3 hk3 b3 hJ4
    gi_wp2
    go_roundw
    case rel=>
     refine ⟨pre ++ [R.take i],R.drop (i+1),trivial,V0,Hi ⟨?_,HJ4.out,HB3.out.set 0 _,?_,?_⟩⟩
     ·rw [<-HP.out];simp
     ·exact (World.cell?_setCell_other W3 ⟨B,0,none⟩ ⟨B+1,0,none⟩ _ V3).trans d1
     ·exact (World.cell?_setCell_other W3 ⟨B,0,none⟩ ⟨B+2,0,none⟩ _ V3).trans d2
    case measure=>
     rw [q5c c0,q5c ((HB3.out.set 0 (.string ⟨(R.drop (i+1)).toArray⟩)).cell 0)];exact hdl
   ·gi_wp2
    refine bodyPost_ret (results_none rfl _ _ _) rfl ?_;exact ⟨⟨_,rfl⟩,.inr ⟨_,⟨splitB c (R.drop (i+1)),by rw [<-HP.out];simp⟩,hJx3⟩⟩
def sqW(L:Bs)(c:UInt8)(w:World):World:=((w.alloc (.cells #[.string ⟨L.toArray⟩] 9)).alloc (.cells #[.string ⟨#[c]⟩] 9)).alloc (.cells #[.int .i64 0] 3)
def sqC(B:Nat):Array Value:=#[.pointer (some ⟨B+1,0,none⟩),.pointer (some ⟨B,0,none⟩),.pointer (some ⟨B+2,0,none⟩)]
theorem q7H(n:Nat)(hn:1<=n)(B:Nat)(c:UInt8)(L:Bs)(hL:L.length<=1000000)(w:World)(hB:B+2 < w.heap.size)(hS:Blk w B 9 #[.string ⟨L.toArray⟩])(hE:w.cell? ⟨B+1,0,none⟩=some (.string ⟨#[c]⟩))(hZ:w.cell? ⟨B+2,0,none⟩=some (.int .i64 0)) :
  Rt.It Fence.wide n Tryz.prog 211 (sqC B) (fun x:Bs=>#[.string ⟨x.toArray⟩]) (KB B) B (fun ys=>ys=splitB c L) (fun pre=>pre <+: splitB c L) (splitB c L).length w:=fun l J Jx W hW hJ _ hY h0=>
 split1 n hn l B c L J Jx hJ hY W hL (hS.below hW V0) ((hW.cell (p:=⟨B+1,0,none⟩) (by show B+1 < _;omega)).trans hE) ((hW.cell (p:=⟨B+2,0,none⟩) hB).trans hZ) h0
theorem seqU(L:Bs)(c:UInt8)(w:World) :
  Calls Tryz.prog 203 #[.string ⟨L.toArray⟩,.string ⟨#[c]⟩,.int .i64 0] w fun e w'=>e = .returned (.func (.func 211) #[] (sqC w.heap.size))/\w'=sqW L c w:=by
 go_enter Tryz.func203,Tryz.ntmps203;go_wp2_with fail
 go_ret;exact ⟨rfl,rfl⟩
theorem seqC(L:Bs)(c:UInt8)(w:World) :
  Calls Tryz.prog 185 #[.string ⟨L.toArray⟩,.string ⟨#[c]⟩] w fun e w'=>e = .returned (.func (.func 211) #[] (sqC w.heap.size))/\w'=sqW L c w:=by
 have h:=seqU L c w;generalize sqW L c w=w1 at *;generalize sqC w.heap.size=F at *;go_enter Tryz.func185,Tryz.ntmps185;go_wp2_with fail
 refine h.mono ?_;rintro e w' ⟨rfl,rfl⟩;go_wp2_with fail
 go_ret;exact ⟨rfl,rfl⟩
end
end Lx
end Go.Proofs.YtcgibpdjfgjldaaGreatDoor
