/- DERIVED. Shelf, PaNb, PaSq. By an AI agent. -/
import Derived.Shelf.Strings.Trim
import Derived.Shelf.Small.Utf8
import Derived.Shelf.Small.Strs
import Derived.Shelf.Small.Wraps
import Derived.Shelf.Strings.Search1
import Derived.Shelf.Strings.Search2
import Derived.Shelf.Strings.Search3
import Derived.Shelf.Strings.Cut
import Derived.Shelf.LaysM
import Derived.Shelf.Strings.Shaped
import Derived.Shelf.Strings.Prefix
import Derived.Shelf.Unicode.Decode
import Derived.Shelf.Strings.Runes
import Derived.Shelf.Strings.AsciiSet
import Derived.Shelf.Unicode.DecodeSlow
import Derived.Shelf.Unicode.DecodeAny
import Derived.Shelf.Slices.Turned
import Derived.Test.YtdhoemlomojfaaaGreatDoorProg
import Derived.Test.YtdhoemlomojfaaaGreatDoorW01
import Derived.Test.YtdhoemlomojfaaaGreatDoorW28
import Derived.Test.YtdhoemlomojfaaaGreatDoorW07
set_option maxRecDepth 100000
set_option maxHeartbeats 2000000
set_option linter.unusedVariables false
set_option linter.unusedSimpArgs false
namespace Go.Proofs
open Go.Shelf
section
def Tryz.lays161_ren:Go.Shelf.Ren:=⟨fun | 161=>125 | 231=>150 | 227=>151 | 233=>152 | 235=>153 | 228=>167 | 197=>168 | 151=>169 | 260=>176 | 152=>177 | 137=>185 | 119=>186 | 224=>180 | 225=>179 | 217=>178 | 266=>187 | n=>n,fun | 9=>9 | 4=>4 | 3=>3 | 5=>5 | 117=>210 | 116=>209 | 0=>0 | 124=>213 | 105=>225 | 21=>21 | 119=>236 | 46=>123 | 139=>239 | 138=>238 | n=>n,fun | 3=>1 | 4=>2 | n=>n⟩
theorem Tryz.lays161:Go.Proofs.Lays.n161 Tryz.prog Tryz.lays161_ren:={
 mixed:=by kernel_rfl
 f119:=Tryz.func186.trans (congrArg some (by kernel_rfl))
 f137:=Tryz.func185.trans (congrArg some (by kernel_rfl))
 f151:=Tryz.func169.trans (congrArg some (by kernel_rfl))
 f152:=Tryz.func177.trans (congrArg some (by kernel_rfl))
 f161:=Tryz.func125.trans (congrArg some (by kernel_rfl))
 f197:=Tryz.func168.trans (congrArg some (by kernel_rfl))
 f217:=Tryz.func178.trans (congrArg some (by kernel_rfl))
 f224:=Tryz.func180.trans (congrArg some (by kernel_rfl))
 f225:=Tryz.func179.trans (congrArg some (by kernel_rfl))
 f227:=Tryz.func151.trans (congrArg some (by kernel_rfl))
 f228:=Tryz.func167.trans (congrArg some (by kernel_rfl))
 f231:=Tryz.func150.trans (congrArg some (by kernel_rfl))
 f233:=Tryz.func152.trans (congrArg some (by kernel_rfl))
 f235:=Tryz.func153.trans (congrArg some (by kernel_rfl))
 f260:=Tryz.func176.trans (congrArg some (by kernel_rfl))
 f266:=Tryz.func187.trans (congrArg some (by kernel_rfl))
 t0:=Tryz.underlying0
 a0:=Tryz.isAgg0
 z0:=Tryz.sizeOf0
 v0:=Tryz.zeroValue0
 t3:=Tryz.underlying3
 a3:=Tryz.isAgg3
 z3:=Tryz.sizeOf3
 v3:=Tryz.zeroValue3
 t4:=Tryz.underlying4
 a4:=Tryz.isAgg4
 z4:=Tryz.sizeOf4
 v4:=Tryz.zeroValue4
 t5:=Tryz.underlying5
 a5:=Tryz.isAgg5
 z5:=Tryz.sizeOf5
 v5:=Tryz.zeroValue5
 t9:=Tryz.underlying9
 a9:=Tryz.isAgg9
 z9:=Tryz.sizeOf9
 v9:=Tryz.zeroValue9
 t21:=Tryz.underlying21
 a21:=Tryz.isAgg21
 z21:=Tryz.sizeOf21
 v21:=Tryz.zeroValue21
 t46:=Tryz.underlying123
 a46:=Tryz.isAgg123
 z46:=Tryz.sizeOf123
 v46:=Tryz.zeroValue123
 t105:=Tryz.underlying225
 a105:=Tryz.isAgg225
 z105:=Tryz.sizeOf225
 v105:=Tryz.zeroValue225
 t116:=Tryz.underlying209
 a116:=Tryz.isAgg209
 z116:=Tryz.sizeOf209
 t117:=Tryz.underlying210
 a117:=Tryz.isAgg210
 z117:=Tryz.sizeOf210
 v117:=Tryz.zeroValue210
 t119:=Tryz.underlying236
 a119:=Tryz.isAgg236
 z119:=Tryz.sizeOf236
 t124:=Tryz.underlying213
 a124:=Tryz.isAgg213
 z124:=Tryz.sizeOf213
 v124:=Tryz.zeroValue213
 t138:=Tryz.underlying238
 a138:=Tryz.isAgg238
 z138:=Tryz.sizeOf238
 v138:=Tryz.zeroValue238
 t139:=Tryz.underlying239
 a139:=Tryz.isAgg239
 z139:=Tryz.sizeOf239
 v139:=Tryz.zeroValue239
 g3:=by kernel_rfl
 g4:=by kernel_rfl }
open Go.RowKit in
def Tryz.lays103_ren:Go.Shelf.Ren:=⟨fun | 103=>190 | 210=>192 | 206=>154 | n=>n,fun | 9=>9 | 4=>4 | 24=>245 | 3=>3 | n=>n,fun | n=>n⟩
theorem Tryz.lays103:Go.Proofs.Lays.n103 Tryz.prog Tryz.lays103_ren:={
 mixed:=by kernel_rfl
 f103:=Tryz.func190.trans (congrArg some (by kernel_rfl))
 f206:=Tryz.func154.trans (congrArg some (by kernel_rfl))
 f210:=Tryz.func192.trans (congrArg some (by kernel_rfl))
 t3:=Tryz.underlying3
 a3:=Tryz.isAgg3
 z3:=Tryz.sizeOf3
 v3:=Tryz.zeroValue3
 t4:=Tryz.underlying4
 a4:=Tryz.isAgg4
 z4:=Tryz.sizeOf4
 v4:=Tryz.zeroValue4
 t9:=Tryz.underlying9
 a9:=Tryz.isAgg9
 z9:=Tryz.sizeOf9
 v9:=Tryz.zeroValue9
 t24:=Tryz.underlying245
 a24:=Tryz.isAgg245
 z24:=Tryz.sizeOf245
 v24:=Tryz.zeroValue245 }
open Go.RowKit in
theorem Tryz.strings_CutPrefix(s p:ByteArray)(w:World) :
  Calls Tryz.prog 190 #[.string s,.string p] w fun e w'=>e = .returned (.tuple #[.string ⟨(Lib.trimPrefix s.data.toList p.data.toList).toArray⟩,.bool (Lib.hasPrefix s.data.toList p.data.toList)])∧w'=w:=Any.strings_CutPrefix Tryz.lays103 s p w
def Tryz.lays219_ren:Go.Shelf.Ren:=⟨fun | 219=>170 | 217=>178 | 225=>179 | 224=>180 | 267=>181 | 266=>187 | 314=>188 | n=>n,fun | 9=>9 | 3=>3 | 4=>4 | 5=>5 | 46=>123 | 146=>241 | 51=>35 | n=>n,fun | 1=>0 | n=>n⟩
theorem Tryz.lays219:Go.Proofs.Lays.n219 Tryz.prog Tryz.lays219_ren:={
 mixed:=by kernel_rfl
 f217:=Tryz.func178.trans (congrArg some (by kernel_rfl))
 f219:=Tryz.func170.trans (congrArg some (by kernel_rfl))
 f224:=Tryz.func180.trans (congrArg some (by kernel_rfl))
 f225:=Tryz.func179.trans (congrArg some (by kernel_rfl))
 f266:=Tryz.func187.trans (congrArg some (by kernel_rfl))
 f267:=Tryz.func181.trans (congrArg some (by kernel_rfl))
 f314:=Tryz.func188.trans (congrArg some (by kernel_rfl))
 t3:=Tryz.underlying3
 a3:=Tryz.isAgg3
 z3:=Tryz.sizeOf3
 v3:=Tryz.zeroValue3
 t4:=Tryz.underlying4
 a4:=Tryz.isAgg4
 z4:=Tryz.sizeOf4
 v4:=Tryz.zeroValue4
 t5:=Tryz.underlying5
 a5:=Tryz.isAgg5
 z5:=Tryz.sizeOf5
 v5:=Tryz.zeroValue5
 t9:=Tryz.underlying9
 a9:=Tryz.isAgg9
 z9:=Tryz.sizeOf9
 v9:=Tryz.zeroValue9
 t46:=Tryz.underlying123
 a46:=Tryz.isAgg123
 z46:=Tryz.sizeOf123
 v46:=Tryz.zeroValue123
 t51:=Tryz.underlying35
 a51:=Tryz.isAgg35
 z51:=Tryz.sizeOf35
 v51:=Tryz.zeroValue35
 t146:=Tryz.underlying241
 a146:=Tryz.isAgg241
 z146:=Tryz.sizeOf241
 v146:=Tryz.zeroValue241
 g1:=by kernel_rfl }
open Go.RowKit Go.Lib in
theorem Tryz.stringslite_Index_one(s:ByteArray)(c:UInt8)(w:World) :
  Calls Tryz.prog 170 #[.string s,.string ⟨#[c]⟩] w fun e w'=>e = .returned (.int .i64 (Lib.indexByte s.data.toList c))∧w'=w:=Any.stringslite_Index_one Tryz.lays219 s c w
def Tryz.lays143_ren:Go.Shelf.Ren:=⟨fun | 143=>172 | 219=>170 | 217=>178 | 225=>179 | 224=>180 | 267=>181 | 266=>187 | 314=>188 | n=>n,fun | 9=>9 | 3=>3 | 4=>4 | 5=>5 | 46=>123 | 146=>241 | 51=>35 | n=>n,fun | 1=>0 | n=>n⟩
theorem Tryz.lays143:Go.Proofs.Lays.n143 Tryz.prog Tryz.lays143_ren:={
 mixed:=by kernel_rfl
 f143:=Tryz.func172.trans (congrArg some (by kernel_rfl))
 f217:=Tryz.func178.trans (congrArg some (by kernel_rfl))
 f219:=Tryz.func170.trans (congrArg some (by kernel_rfl))
 f224:=Tryz.func180.trans (congrArg some (by kernel_rfl))
 f225:=Tryz.func179.trans (congrArg some (by kernel_rfl))
 f266:=Tryz.func187.trans (congrArg some (by kernel_rfl))
 f267:=Tryz.func181.trans (congrArg some (by kernel_rfl))
 f314:=Tryz.func188.trans (congrArg some (by kernel_rfl))
 t3:=Tryz.underlying3
 a3:=Tryz.isAgg3
 z3:=Tryz.sizeOf3
 v3:=Tryz.zeroValue3
 t4:=Tryz.underlying4
 a4:=Tryz.isAgg4
 z4:=Tryz.sizeOf4
 v4:=Tryz.zeroValue4
 t5:=Tryz.underlying5
 a5:=Tryz.isAgg5
 z5:=Tryz.sizeOf5
 v5:=Tryz.zeroValue5
 t9:=Tryz.underlying9
 a9:=Tryz.isAgg9
 z9:=Tryz.sizeOf9
 v9:=Tryz.zeroValue9
 t46:=Tryz.underlying123
 a46:=Tryz.isAgg123
 z46:=Tryz.sizeOf123
 v46:=Tryz.zeroValue123
 t51:=Tryz.underlying35
 a51:=Tryz.isAgg35
 z51:=Tryz.sizeOf35
 v51:=Tryz.zeroValue35
 t146:=Tryz.underlying241
 a146:=Tryz.isAgg241
 z146:=Tryz.sizeOf241
 v146:=Tryz.zeroValue241
 g1:=by kernel_rfl }
open Go.RowKit Go.Lib in
theorem Tryz.strings_Index_one(s:ByteArray)(c:UInt8)(w:World) :
  Calls Tryz.prog 172 #[.string s,.string ⟨#[c]⟩] w fun e w'=>e = .returned (.int .i64 (Lib.indexByte s.data.toList c))∧w'=w:=Any.strings_Index_one Tryz.lays143 s c w
def Tryz.lays99_ren:Go.Shelf.Ren:=⟨fun | 99=>126 | 206=>154 | n=>n,fun | 9=>9 | 4=>4 | 3=>3 | n=>n,fun | n=>n⟩
theorem Tryz.lays99:Go.Proofs.Lays.n99 Tryz.prog Tryz.lays99_ren:={
 mixed:=by kernel_rfl
 f99:=Tryz.func126.trans (congrArg some (by kernel_rfl))
 f206:=Tryz.func154.trans (congrArg some (by kernel_rfl))
 t3:=Tryz.underlying3
 a3:=Tryz.isAgg3
 z3:=Tryz.sizeOf3
 v3:=Tryz.zeroValue3
 t4:=Tryz.underlying4
 a4:=Tryz.isAgg4
 z4:=Tryz.sizeOf4
 v4:=Tryz.zeroValue4
 t9:=Tryz.underlying9
 a9:=Tryz.isAgg9
 z9:=Tryz.sizeOf9
 v9:=Tryz.zeroValue9 }
open Go.RowKit Go.Lib in
theorem Tryz.strings_HasPrefix(s p:ByteArray)(w:World) :
  Calls Tryz.prog 126 #[.string s,.string p] w fun e w'=>e = .returned (.bool (Lib.hasPrefix s.data.toList p.data.toList))∧w'=w:=Any.strings_HasPrefix Tryz.lays99 s p w
end
end Go.Proofs
namespace Go.Proofs.YtdhoemlomojfaaaGreatDoor.Num
open Go.ChangeShapes Go.WideShapes Go.ChangeAt Go.RowKit
theorem nrun_step(base:Nat)(D:ByteArray)(k n:Nat)(hk:k < D.size)(hd:dvN (D[k].toNat) < base) :
  nrun base (D.data.toList.drop k) n=nrun base (D.data.toList.drop (k+1)) (min (n * base+dvN (D[k].toNat)) 4294967296):=by
 rw [List.drop_eq_getElem_cons (by simpa using hk),nrun];exact if_pos hd
theorem nrun_none(base:Nat)(D:ByteArray)(k n:Nat)(hk:k < D.size)(hd:¬ dvN (D[k].toNat) < base):nrun base (D.data.toList.drop k) n=none:=by
 rw [List.drop_eq_getElem_cons (by simpa using hk),nrun];exact if_neg hd
theorem numR_nil(base:Nat)(D:ByteArray)(h:D.size = 0):numR base D.data.toList=(0,4):=by
 have:D.data.toList.length = 0:=by simpa using h
 rw [List.length_eq_zero_iff.1 this];rfl
theorem numR_none(base:Nat)(D:ByteArray)(h:D.size≠0)(hr:nrun base D.data.toList 0=none):numR base D.data.toList=(0,4):=by
 unfold numR;rw [if_neg (by intro e;apply h;have:=congrArg List.length e;simpa using this),hr]
theorem numR_some(base:Nat)(D:ByteArray)(n:Nat)(h:D.size≠0)(hr:nrun base D.data.toList 0=some n):numR base D.data.toList=if n = 4294967296 then (0,2) else (n,0):=by
 unfold numR;rw [if_neg (by intro e;apply h;have:=congrArg List.length e;simpa using this),hr]
theorem empty_true(D:ByteArray)(h:D.size = 0):D.toList.isEmpty=true:=by
 rw [ByteArray.toList_eq];have:D.data.toList.length = 0:=by simpa using h
 rw [List.length_eq_zero_iff.1 this];rfl
theorem empty_false(D:ByteArray)(h:¬ D.size = 0):D.toList.isEmpty=false:=by
 rw [ByteArray.toList_eq];cases e:D.data.toList with
 | nil=>exfalso;apply h;have:=congrArg List.length e;simpa using this
 | cons=>rfl
theorem nrun_end(base:Nat)(D:ByteArray)(n:Nat):nrun base (D.data.toList.drop D.size) n=some n:=by
 rw [List.drop_of_length_le (by simp)];rfl
theorem numC(hex:Bool)(s D:ByteArray)(w:World)(hp:Lib.hasPrefix s.data.toList [48,120]=hex)(hD:(⟨(Lib.trimPrefix s.data.toList [48,120]).toArray⟩:ByteArray)=D)(hsz:D.size≤maxLen) :
  Calls Tryz.prog 189 #[.string s] w fun e w'=>e = .returned (resN (numR (if hex then 16 else 10) D.data.toList))∧w=w':=by
 have hc:=Tryz.strings_CutPrefix s ⟨#[48,120]⟩ w;rw [show (ByteArray.mk #[48,120]).data.toList=[48,120] from rfl,hp,hD] at hc;have HC:=Hi hc;unfold maxLen at hsz;clear hc hp hD;by_cases hnil:D.size = 0
 ·have he:=empty_true D hnil;rw [numR_nil _ D hnil];clear hnil;cases hex
  all_goals
   go_enter Tryz.func189,Tryz.ntmps189;go_wp2_with fail
   refine HC.out.mono ?_;rintro e w' ⟨rfl,rfl⟩
   go_wp2
   go_ret2
   exact ⟨rfl,rfl⟩
 have hne:=empty_false D hnil;have HNE:Hid (D.size≠0):=Hi hnil;cases hex
 all_goals
  simp only [Bool.false_eq_true,if_true,if_false];go_enter Tryz.func189,Tryz.ntmps189;go_wp2_with fail
  refine HC.out.mono ?_;rintro e w' ⟨rfl,rfl⟩
  go_wp2
 ·go_loop [7,20] (fun vn vi=>∃ k n:Nat,k≤D.size∧vi = .int .i64 k∧vn = .int .u64 n∧n≤4294967296∧Hid (nrun 10 D.data.toList 0=nrun 10 (D.data.toList.drop k) n)) (fun _ vi=>D.size - (intOf vi).toNat)
  case atStart=>exact ⟨0,0,by omega,rfl,rfl,by omega,Hi rfl⟩
  case round=>
   obtain ⟨k,n,hk,rfl,rfl,hn,HI⟩:=hrel;clear hne hnil;by_cases hlt:k < D.size
   ·have hb:D[k].toNat < 256:=D[k].toNat_lt;have hdc:=digitC D[k].toNat hb;have hdl:=dvN_le D[k].toNat;by_cases hd:dvN D[k].toNat < 10
    ·have hst:=nrun_step 10 D k n hlt hd;generalize dvN D[k].toNat=d at hdc hdl hd hst;have HS:=Hi hst;have HDC:=Hi hdc;clear hst hdc;go_wp2_with (go_at_call 191;refine (HDC.out _).mono ?_;rintro e w' ⟨rfl,rfl⟩)
     go_round
     case rel=>exact ⟨k+1,min (n * 10+d) 4294967296,by omega,by go_num,by go_num,by omega,Hi (by rw [HI.out,HS.out])⟩
     case measure=>simp [intOf];omega
    ·have hst:=nrun_none 10 D k n hlt hd;rw [←HI.out] at hst;have hfin:=numR_none 10 D HNE.out hst;generalize dvN D[k].toNat=d at hdc hdl hd;have HF:=Hi hfin;have HDC:=Hi hdc;clear hst hdc hfin;go_wp2_with (go_at_call 191;refine (HDC.out _).mono ?_;rintro e w' ⟨rfl,rfl⟩)
     go_ret2
     exact ⟨by rw [HF.out];rfl,rfl⟩
   ·have:k=D.size:=by omega
    subst this;have hI:=HI.out;rw [nrun_end] at hI;have hfin:=numR_some 10 D n HNE.out hI;clear hI HI;by_cases hl:n < 4294967296
    ·rw [if_neg (by omega)] at hfin;have HF:=Hi hfin;clear hfin
     go_wp2
     go_ret2
     exact ⟨by rw [HF.out];rfl,rfl⟩
    ·have:n = 4294967296:=by omega
     subst this;rw [if_pos rfl] at hfin;have HF:=Hi hfin;clear hfin
     go_wp2
     go_ret2
     exact ⟨by rw [HF.out];rfl,rfl⟩
 ·go_loop [7,20] (fun vn vi=>∃ k n:Nat,k≤D.size∧vi = .int .i64 k∧vn = .int .u64 n∧n≤4294967296∧Hid (nrun 16 D.data.toList 0=nrun 16 (D.data.toList.drop k) n)) (fun _ vi=>D.size - (intOf vi).toNat)
  case atStart=>exact ⟨0,0,by omega,rfl,rfl,by omega,Hi rfl⟩
  case round=>
   obtain ⟨k,n,hk,rfl,rfl,hn,HI⟩:=hrel;clear hne hnil;by_cases hlt:k < D.size
   ·have hb:D[k].toNat < 256:=D[k].toNat_lt;have hdc:=digitC D[k].toNat hb;have hdl:=dvN_le D[k].toNat;by_cases hd:dvN D[k].toNat < 16
    ·have hst:=nrun_step 16 D k n hlt hd;generalize dvN D[k].toNat=d at hdc hdl hd hst;have HS:=Hi hst;have HDC:=Hi hdc;clear hst hdc;go_wp2_with (go_at_call 191;refine (HDC.out _).mono ?_;rintro e w' ⟨rfl,rfl⟩)
     go_round
     case rel=>exact ⟨k+1,min (n * 16+d) 4294967296,by omega,by go_num,by go_num,by omega,Hi (by rw [HI.out,HS.out])⟩
     case measure=>simp [intOf];omega
    ·have hst:=nrun_none 16 D k n hlt hd;rw [←HI.out] at hst;have hfin:=numR_none 16 D HNE.out hst;generalize dvN D[k].toNat=d at hdc hdl hd;have HF:=Hi hfin;have HDC:=Hi hdc;clear hst hdc hfin;go_wp2_with (go_at_call 191;refine (HDC.out _).mono ?_;rintro e w' ⟨rfl,rfl⟩)
     go_ret2
     exact ⟨by rw [HF.out];rfl,rfl⟩
   ·have:k=D.size:=by omega
    subst this;have hI:=HI.out;rw [nrun_end] at hI;have hfin:=numR_some 16 D n HNE.out hI;clear hI HI;by_cases hl:n < 4294967296
    ·rw [if_neg (by omega)] at hfin;have HF:=Hi hfin;clear hfin
     go_wp2
     go_ret2
     exact ⟨by rw [HF.out];rfl,rfl⟩
    ·have:n = 4294967296:=by omega
     subst this;rw [if_pos rfl] at hfin;have HF:=Hi hfin;clear hfin
     go_wp2
     go_ret2
     exact ⟨by rw [HF.out];rfl,rfl⟩
end Go.Proofs.YtdhoemlomojfaaaGreatDoor.Num
namespace Go.Proofs.YtdhoemlomojfaaaGreatDoor.Pa
open Go Go.ChangeShapes Go.WideShapes Go.ChangeAt Go.RowKit Lx Args
section
attribute [local go_sem] fTk0 fTk1 fTk2
def numV(s:Bs):Nat×Nat:=Num.numR (if Lib.hasPrefix s [48,120]=true then 16 else 10) (Lib.trimPrefix s [48,120])
theorem numR_er(b:Nat)(L:List UInt8):(Num.numR b L).2 = 0∨(Num.numR b L).2 = 2∨(Num.numR b L).2 = 4:=by
 unfold Num.numR;split
 ·exact .inr (.inr rfl)
 ·split
  ·exact .inr (.inr rfl)
  ·split
   ·exact .inr (.inl rfl)
   ·exact .inl rfl
theorem trim_len(s p:Bs):(Lib.trimPrefix s p).length≤s.length:=by
 unfold Lib.trimPrefix;split
 ·rw [List.length_drop];omega
 ·exact Nat.le_refl _
theorem numC(s:Bs)(hs:s.length≤20000)(w:World):Calls Tryz.prog 189 #[.string ⟨s.toArray⟩] w fun e w'=>e = .returned (.tuple #[.int .u32 ((numV s).1:Int),.int .i64 ((numV s).2:Int)])∧w=w':=by
 have h:=Num.numC (Lib.hasPrefix s [48,120]) ⟨s.toArray⟩ ⟨(Lib.trimPrefix s [48,120]).toArray⟩ w rfl rfl (by
  have:=trim_len s [48,120];show (Lib.trimPrefix s [48,120]).toArray.size≤maxLen;rw [List.size_toArray];unfold maxLen;omega)
 refine h.mono fun e w' h=>⟨h.1,h.2⟩
theorem number(w:World)(bp d:Nat)(t:Tk)(r:List Tk)(hp:PS w bp (t :: r) d)(hs:t.s.length≤20000)(hr:r≠[]) :
  Calls Tryz.prog 182 #[.pointer (some ⟨bp,0,none⟩)] w fun e w'=>
   ((numV t.s).2 = 0∧e = .returned (.int .u32 ((numV t.s).1:Int))∧PS w' bp r d∧UB bp w w')∨((numV t.s).2≠0∧e=panV t.at_ (if (numV t.s).2 = 4 then 100 else 150)∧UB bp w w'):=by
 have HN:=Hi (next w bp d t r hp);have HP:=Hi hp;have HR:=Hi hr;have hC:=numC t.s hs;have her:(numV t.s).2 = 0∨(numV t.s).2 = 2∨(numV t.s).2 = 4:=numR_er _ _;generalize numV t.s=q at hC her ⊢;obtain ⟨n,er⟩:=q;dsimp only at hC her ⊢;have HC:=Hi hC;clear hp hr hC;rcases her with rfl | rfl | rfl
 all_goals
  go_enter Tryz.func182,Tryz.ntmps182;go_wp2_with fail
  refine HN.out.mono ?_;rintro e w1 ⟨rfl,hb1⟩;have HP1:=Hi (HP.out.below hb1);have HB1:=Hi hb1;clear hb1;go_wp2_with fail
  refine (HC.out _).mono ?_;rintro e w' ⟨rfl,rfl⟩;go_wp2_with fail
 ·refine (take w1 bp d t r HP1.out HR.out).mono ?_;rintro e w2 ⟨rfl,hp2,hu2⟩;have HP2:=Hi hp2;have HU2:=Hi ((below_UB (bp:=bp) HB1.out).trans hu2);clear hp2 hu2;go_wp2_with fail
  go_ret;exact ⟨rfl,HP2.out,HU2.out⟩
 ·refine (here w1 bp d t r 150 HP1.out).mono ?_;rintro e w2 ⟨rfl,hb2⟩;have HB2:=Hi (HB1.out.trans (hb2.mono HB1.out.size));clear hb2;go_wp2_with fail
  exact ⟨rfl,rfl,below_UB HB2.out⟩
 ·refine (here w1 bp d t r 100 HP1.out).mono ?_;rintro e w2 ⟨rfl,hb2⟩;have HB2:=Hi (HB1.out.trans (hb2.mono HB1.out.size));clear hb2;go_wp2_with fail
  exact ⟨rfl,rfl,below_UB HB2.out⟩
theorem nk_end(ps:List Bs){t u:Tk}{r:List Tk}(hk:t.k = 1)(hu:isS [44] u=false)(f:List Bs→List Tk→OO):namesK ps (t :: u :: r) f=f (ps ++ [t.s]) (u :: r):=by
 conv=>lhs;unfold namesK
 rw [if_pos hk,if_neg (by rw [hu];decide)]
theorem nk_go(ps:List Bs){t u:Tk}{r:List Tk}(hk:t.k = 1)(hu:isS [44] u=true)(f:List Bs→List Tk→OO):namesK ps (t :: u :: r) f=namesK (ps ++ [t.s]) r f:=by
 conv=>lhs;unfold namesK
 rw [if_pos hk,if_pos hu]
theorem nk_no(ps:List Bs){t:Tk}{r:List Tk}(hk:t.k≠1)(f:List Bs→List Tk→OO):namesK ps (t :: r) f=some (.bad t.at_ 100):=by
 cases r with
 | nil=>
  conv=>lhs;unfold namesK
  rw [if_neg hk];rfl
 | cons u r=>
  conv=>lhs;unfold namesK
  rw [if_neg hk];rfl
theorem infoSt:(Tryz.prog.info? 9).map (fun i=>(i.zero,i.size,i.bytes))=some (some (.string ⟨#[]⟩),1,16):=by kernel_rfl
def NmP(w:World)(bp d:Nat)(l:List Tk)(e:Ending)(w':World):Prop:=
 (∃ ps r g c,e = .returned (.slice (some ⟨g,0,none⟩) ps.length c)∧(∀ f,namesK [] l f=f ps r)∧PS w' bp r d∧Et r∧r <:+ l∧r.length < l.length∧Lies w' (some ⟨g,0,none⟩) (ps.map strV)∧w.heap.size≤g∧(ps.length≤4000∧ps.length≤c∧c≤maxLen)∧UB bp w w') ∨
 (∃ a,e=panV a 100∧(∀ f,namesK [] l f=some (.bad a 100))∧UB bp w w')
def NmI(w:World)(bp d:Nat)(l:List Tk)(ps:List Bs)(u:Tk)(r:List Tk)(g c:Nat)(W:World):Prop:=
 (∀ f,namesK [] l f=if isS [44] u=true then namesK ps r f else f ps (u :: r))∧PS W bp (u :: r) d∧Gt (u :: r)∧(u :: r) <:+ l∧(u :: r).length < l.length∧W.ownsRow w.heap.size 9 1 (.slice (some ⟨g,0,none⟩) ps.length c) ps.length (ps.map strV)∧ps.length+r.length≤4000∧UB bp w W
theorem et_ne{t:Tk}{r:List Tk}(h:Et (t :: r))(ht:t.k≠0):∃ u r',r=u :: r':=by
 have:=et_tail h ht;cases r with
 | nil=>exact absurd this et_nil
 | cons u r'=>exact ⟨u,r',rfl⟩
theorem own_str{w:World}{lo g c:Nat}{ps:List Bs}(h:w.ownsRow lo 9 1 (.slice (some ⟨g,0,none⟩) ps.length c) ps.length (ps.map strV)):Lies w (some ⟨g,0,none⟩) (ps.map strV)∧lo≤g:=
 ⟨fun j u hj=>⟨_,rfl,h.cells (g:=g) rfl j u hj⟩,(own_at h).1⟩
def lenAt(w:World)(bp:Nat):Nat:=match w.cell? ⟨bp,0,none⟩ with | some (.slice _ n _)=>n | _=>0
theorem PS.len{w:World}{bp:Nat}{l:List Tk}{d:Nat}(h:PS w bp l d):lenAt w bp=l.length:=by
 obtain ⟨b,o,c,_,h1,_⟩:=h;unfold lenAt;rw [show w.cell? ⟨bp,0,none⟩=some (.slice (some ⟨b,o,none⟩) l.length c) from h1.cell 0]
theorem nm_next{w wr w5 w8:World}{bp d g c g8 c8:Nat}{l r3:List Tk}{ps:List Bs}{u v v2:Tk}{X:Array Value}(HH:NmI w bp d l ps u (v :: v2 :: r3) g c wr)(hlt:bp < w.heap.size)(hon:isS [44] u=true)(hk:v.k = 1)(hgv:Gt (v :: v2 :: r3))(hU:UB bp wr w5)(hP:PS w5 bp (v2 :: r3) d)
  (hE:AppE w.heap.size 9 1 (w5.alloc (.cells X 9)) (.slice (some ⟨g,0,none⟩) ps.length c) ps.length 1 (ps.map strV ++ [.string ⟨v.s.toArray⟩]) g8 c8 w8):NmI w bp d l (ps ++ [v.s]) v2 r3 g8 c8 w8:=by
 obtain ⟨h1,h2,h3,h4,h5,h6,h7,h8⟩:=HH;have hg:=own_at h6;have hu8:Upd (fun b=>b=bp∨b=g) wr w8:=((hU.mono fun k hk=>Or.inl hk).alloc _).grown hE.grown fun k hk _=>by cases hk;exact .inr rfl
 have hu58:Upd (fun b=>b=g) w5 w8:=((Upd.refl _ w5).alloc _).grown hE.grown fun k hk _=>by cases hk;rfl
 refine ⟨fun f=>?_,hP.far hu58 fun b hb=>by omega,hgv.tail (by omega),(List.suffix_cons _ _).trans ((List.suffix_cons _ _).trans h4),by simp only [List.length_cons] at h5 ⊢;omega,?_,by simp only [List.length_append,List.length_cons,List.length_nil] at h7 ⊢;omega,?_⟩
 ·rw [h1 f,if_pos hon];by_cases hu:isS [44] v2=true
  ·rw [if_pos hu,nk_go _ hk hu]
  ·rw [if_neg hu,nk_end _ hk (by simpa using hu)]
 ·rw [List.length_append,List.map_append];exact hE.own
 ·exact ((h8.mono fun k hk=>Or.inl hk).trans hu8).fresh fun k hk hs=>by
   rcases hk with hk | hk
   ·exact hk
   ·subst hk;exact absurd hs (by omega)
theorem names(w:World)(bp d:Nat)(l:List Tk)(hp:PS w bp l d)(hg:Gt l) :
  Calls Tryz.prog 106 #[.pointer (some ⟨bp,0,none⟩)] w (NmP w bp d l):=by
 obtain ⟨t,r,rfl⟩:=hg.cons;have hlt:=hp.lt;obtain ⟨i0,hi,hz⟩:=Option.map_eq_some_iff.1 infoSt;have hz0:=congrArg (·.1) hz;have hz1:=congrArg (·.2.1) hz;have hz2:=congrArg (·.2.2) hz;have HI:=Hi hi;have HZ0:=Hi hz0;have HZ1:=Hi hz1;have HZ2:=Hi hz2;clear hi hz hz0 hz1 hz2;by_cases hk:t.k = 1
 ·obtain ⟨u,r,rfl⟩:=et_ne hg.et (by omega);have HN:=Hi (name_yes w bp d t (u :: r) hp hk (by simp));have HG:=Hi (hg.tail (by omega));have HF:Hid (∀ f,namesK [] (t :: u :: r) f=if isS [44] u=true then namesK [t.s] r f else f [t.s] (u :: r)):=Hi fun f=>by
   by_cases hu:isS [44] u=true
   ·rw [if_pos hu,nk_go _ hk hu];rfl
   ·rw [if_neg hu,nk_end _ hk (by simpa using hu)];rfl
  have hfw:=hg.few;have HFW:Hid (r.length+2≤4000):=Hi (by simpa using hfw);clear hp hg hk hfw;go_enter Tryz.func106,Tryz.ntmps106;go_wp2_with fail
  refine HN.out.mono ?_;rintro e w1 ⟨rfl,hp1,hu1⟩;have HJ:Hid (NmI w bp d (t :: u :: r) [t.s] u r w1.heap.size 1 (w1.alloc (.cells #[.string ⟨t.s.toArray⟩] 9))):=Hi ⟨HF.out,hp1.below ((Below.refl _ _).alloc (Nat.le_refl _) _),HG.out,List.suffix_cons _ _,by simp,
   own_full w1 hu1.size 9 1 1 [.string ⟨t.s.toArray⟩] rfl (by decide),by have:=HFW.out;simp;omega,(hu1.alloc _)⟩
  clear hp1 hu1 HF HN HG HFW;go_wp2_with fail
  go_loopw [3] (fun vl wr=>∃ ps u' r' g c,vl = .slice (some ⟨g,0,none⟩) ps.length c∧Hid (NmI w bp d (t :: u :: r) ps u' r' g c wr)) (fun _ wr=>lenAt wr bp)
  case atStart=>exact ⟨[t.s],u,r,_,_,rfl,HJ⟩
  case round=>
   clear HJ;obtain ⟨ps,u',r',g,c,rfl,HH⟩:=hrel;have HIS:=Hi (is_ wr bp d u' r' [44] HH.out.2.1);by_cases hc:(u'.s==[44])=true
   ·rw [hc] at HIS;have hu':u'.k≠0:=by
     have:=okt_lit HH.out.2.2.1.hd (by rw [eq_of_beq hc];decide);omega
    obtain ⟨v,r'',rfl⟩:=et_ne HH.out.2.2.1.et hu';have hon:isS [44] u'=true:=by rw [isS_eq HH.out.2.2.1.hd (by decide)];exact hc
    go_wp2_with fail
    refine HIS.out.mono ?_;rintro e w3 ⟨rfl,hb3⟩;have HT:=Hi (take w3 bp d u' (v :: r'') (HH.out.2.1.below hb3) (by simp));have HB3:=Hi hb3;clear hb3;go_wp2_with fail
    refine HT.out.mono ?_;rintro e w4 ⟨rfl,hp4,hu4⟩;have hu4':UB bp wr w4:=(below_UB HB3.out).trans hu4;have hgv:Gt (v :: r''):=HH.out.2.2.1.tail hu';by_cases hk:v.k = 1
    ·obtain ⟨v2,r3,rfl⟩:=et_ne hgv.et (by omega);have HN:=Hi (name_yes w4 bp d v (v2 :: r3) hp4 hk (by simp));have HU4:=Hi hu4';clear hp4 hu4 hu4' hc;go_wp2_with fail
     refine HN.out.mono ?_;rintro e w5 ⟨rfl,hp5,hu5⟩;have hu5':UB bp wr w5:=HU4.out.trans hu5;have HU5:=Hi hu5';have how:w5.ownsRow w.heap.size 9 1 (.slice (some ⟨g,0,none⟩) ps.length c) ps.length (ps.map strV):=own_upd3 HH.out.2.2.2.2.2.1 hu5' (by have:=(own_at HH.out.2.2.2.2.2.1).1;omega);have HOA:=Hi (World.ownsRow.alloc how (.cells #[.string ⟨v.s.toArray⟩] 9));have HLI:=Hi (lies_full w5 9 [.string ⟨v.s.toArray⟩]);have hsz:w.heap.size≤w5.heap.size:=Nat.le_trans HH.out.2.2.2.2.2.2.2.size hu5'.size;have HBS:=Hi (show w.heap.size≤(w5.alloc (.cells #[.string ⟨v.s.toArray⟩] 9)).heap.size by simp;omega);have hfew:ps.length+(u' :: v :: v2 :: r3).length≤4001:=by have:=HH.out.2.2.2.2.2.2.1;simp at this ⊢;omega
     have HP5:=Hi hp5;simp only [List.length_cons] at hfew;clear hp5 hu5 hu5' how hsz;go_wp2_with (at_builtin;refine wpList_where rfl _ _ 60 rfl w.heap.size 9 i0 (.string ⟨#[]⟩) 1 16 Tryz.underlying60 HI.out HZ0.out HZ1.out HZ2.out rfl (by decide) _ ps.length _ rfl HOA.out ⟨w5.heap.size,0,none⟩ 1 1 [.string ⟨v.s.toArray⟩] rfl rfl HLI.out (by simp [Value.oneCell']) (by unfold maxLen;omega) (by omega) HBS.out (by decide) ?_;intro g8 c8 w8 hE;have HE:=Hi hE;clear hE)
     go_roundw
     case rel=>exact ⟨ps ++ [v.s],v2,r3,g8,c8,by rw [List.length_append];rfl,Hi (nm_next HH.out hlt hon hk hgv HU5.out HP5.out HE.out)⟩
     case measure=>
      have e8:=PS.len (nm_next HH.out hlt hon hk hgv HU5.out HP5.out HE.out).2.1;have er:=PS.len HH.out.2.1;rw [e8,er];simp
    ·have HN:=Hi (name_no w4 bp d v r'' hp4 hk);have HU4:=Hi hu4';clear hp4 hu4 hu4' hc;go_wp2_with fail
     refine HN.out.mono ?_;rintro e w5 ⟨rfl,hu5⟩;have HU5:=Hi (HU4.out.trans hu5);clear hu5;go_wp2_with fail
     refine ⟨rfl,.inr ⟨_,rfl,fun f=>?_,HH.out.2.2.2.2.2.2.2.trans HU5.out⟩⟩;rw [HH.out.1 f,if_pos hon,nk_no _ hk]
   ·have hc':(u'.s==[44])=false:=by simpa using hc
    rw [hc'] at HIS;have hon:isS [44] u'=false:=by rw [isS_eq HH.out.2.2.1.hd (by decide)];exact hc'
    clear hc hc';go_wp2_with fail
    refine HIS.out.mono ?_;rintro e w3 ⟨rfl,hb3⟩;have HB3:=Hi hb3;clear hb3;go_wp2_with fail
    go_ret;obtain ⟨k1,k2,k3,k4,k5,k6,k7,k8⟩:=HH.out;have hs:=own_str k6;refine .inl ⟨ps,u' :: r',g,c,rfl,fun f=>?_,k2.below HB3.out,k3.et,k4,k5,hs.1.below HB3.out,hs.2,⟨by omega,(own_cap k6 (by omega)).le,(own_cap k6 (by omega)).cap⟩,k8.trans (below_UB HB3.out)⟩;rw [k1 f,hon];rfl
 ·have HN:=Hi (name_no w bp d t r hp hk);clear hp hg;go_enter Tryz.func106,Tryz.ntmps106;go_wp2_with fail
  refine HN.out.mono ?_;rintro e w1 ⟨rfl,hu1⟩;have HU1:=Hi hu1;clear hu1;go_wp2_with fail
  exact ⟨rfl,.inr ⟨_,rfl,fun f=>nk_no _ hk f,HU1.out⟩⟩
end
end Go.Proofs.YtdhoemlomojfaaaGreatDoor.Pa
