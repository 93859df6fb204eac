/- DERIVED. PaNb, PaSq, PaNd. By an AI agent. -/
import Derived.Test.YtpoepignpdfleaaGreatDoorY01
import Derived.Test.YtpoepignpdfleaaGreatDoorY16
import Derived.Test.YtpoepignpdfleaaGreatDoorY02
set_option maxRecDepth 100000
set_option maxHeartbeats 2000000
namespace Go.Proofs.YtpoepignpdfleaaGreatDoor.Num
open Go.ChangeShapes Go.WideShapes Go.ChangeAt Go.RowKit
set_option linter.unusedVariables false
theorem nrun_step(base:Nat)(D:ByteArray)(k n:Nat)(hk:k < D.size)(hd:dvN (D[k].toNat) < base) :
  nrun base (D.data.toList.drop k) n=nrun base (D.data.toList.drop (k+1)) (min (n * base+dvN (D[k].toNat)) 4294967296):=by
 rw [List.drop_eq_getElem_cons (by simpa using hk),nrun]
 exact if_pos hd
theorem nrun_none(base:Nat)(D:ByteArray)(k n:Nat)(hk:k < D.size)(hd:¬ dvN (D[k].toNat) < base):nrun base (D.data.toList.drop k) n=none:=by
 rw [List.drop_eq_getElem_cons (by simpa using hk),nrun]
 exact if_neg hd
theorem numR_nil(base:Nat)(D:ByteArray)(h:D.size = 0):numR base D.data.toList=(0,4):=by
 have:D.data.toList.length = 0:=by simpa using h
 rw [List.length_eq_zero_iff.1 this];rfl
theorem numR_none(base:Nat)(D:ByteArray)(h:D.size≠0)(hr:nrun base D.data.toList 0=none):numR base D.data.toList=(0,4):=by
 unfold numR
 rw [if_neg (by intro e;apply h;have:=congrArg List.length e;simpa using this),hr]
theorem numR_some(base:Nat)(D:ByteArray)(n:Nat)(h:D.size≠0)(hr:nrun base D.data.toList 0=some n):numR base D.data.toList=if n = 4294967296 then (0,2) else (n,0):=by
 unfold numR
 rw [if_neg (by intro e;apply h;have:=congrArg List.length e;simpa using this),hr]
theorem empty_true(D:ByteArray)(h:D.size = 0):D.toList.isEmpty=true:=by
 rw [ByteArray.toList_eq]
 have:D.data.toList.length = 0:=by simpa using h
 rw [List.length_eq_zero_iff.1 this];rfl
theorem empty_false(D:ByteArray)(h:¬ D.size = 0):D.toList.isEmpty=false:=by
 rw [ByteArray.toList_eq]
 cases e:D.data.toList with
 | nil=>exfalso;apply h;have:=congrArg List.length e;simpa using this
 | cons=>rfl
theorem nrun_end(base:Nat)(D:ByteArray)(n:Nat):nrun base (D.data.toList.drop D.size) n=some n:=by
 rw [List.drop_of_length_le (by simp)];rfl
theorem numC(hex:Bool)(s D:ByteArray)(w:World)(hp:Lib.hasPrefix s.data.toList [48,120]=hex)(hD:(⟨(Lib.trimPrefix s.data.toList [48,120]).toArray⟩:ByteArray)=D)(hsz:D.size≤maxLen) :
  Calls Tryz.prog 137 #[.string s] w fun e w'=>e = .returned (resN (numR (if hex then 16 else 10) D.data.toList))∧w=w':=by
 have hc:=Tryz.strings_CutPrefix s ⟨#[48,120]⟩ w
 rw [show (ByteArray.mk #[48,120]).data.toList=[48,120] from rfl,hp,hD] at hc
 have HC:=Hi hc
 unfold maxLen at hsz
 clear hc hp hD
 by_cases hnil:D.size = 0
 ·have he:=empty_true D hnil
  rw [numR_nil _ D hnil]
  clear hnil
  cases hex
  all_goals
   go_enter Tryz.func137,Tryz.ntmps137
   go_wp2_with fail
   refine HC.out.mono ?_;rintro e w' ⟨rfl,rfl⟩
   go_wp2
   go_ret2
   exact ⟨rfl,rfl⟩
 have hne:=empty_false D hnil
 have HNE:Hid (D.size≠0):=Hi hnil
 cases hex
 all_goals
  simp only [Bool.false_eq_true,if_true,if_false]
  go_enter Tryz.func137,Tryz.ntmps137
  go_wp2_with fail
  refine HC.out.mono ?_;rintro e w' ⟨rfl,rfl⟩
  go_wp2
 ·go_loop [7,20] (fun vn vi=>∃ k n:Nat,k≤D.size∧vi = .int .i64 k∧vn = .int .u64 n∧n≤4294967296∧Hid (nrun 10 D.data.toList 0=nrun 10 (D.data.toList.drop k) n)) (fun _ vi=>D.size - (intOf vi).toNat)
  case atStart=>exact ⟨0,0,by omega,rfl,rfl,by omega,Hi rfl⟩
  case round=>
   obtain ⟨k,n,hk,rfl,rfl,hn,HI⟩:=hrel
   clear hne hnil
   by_cases hlt:k < D.size
   ·have hb:D[k].toNat < 256:=D[k].toNat_lt
    have hdc:=digitC D[k].toNat hb
    have hdl:=dvN_le D[k].toNat
    by_cases hd:dvN D[k].toNat < 10
    ·have hst:=nrun_step 10 D k n hlt hd
     generalize dvN D[k].toNat=d at hdc hdl hd hst
     have HS:=Hi hst;have HDC:=Hi hdc
     clear hst hdc
     go_wp2_with (go_at_call 139;refine (HDC.out _).mono ?_;rintro e w' ⟨rfl,rfl⟩)
     go_round
     case rel=>exact ⟨k+1,min (n * 10+d) 4294967296,by omega,by go_num,by go_num,by omega,Hi (by rw [HI.out,HS.out])⟩
     case measure=>simp [intOf];omega
    ·have hst:=nrun_none 10 D k n hlt hd
     rw [←HI.out] at hst
     have hfin:=numR_none 10 D HNE.out hst
     generalize dvN D[k].toNat=d at hdc hdl hd
     have HF:=Hi hfin;have HDC:=Hi hdc
     clear hst hdc hfin
     go_wp2_with (go_at_call 139;refine (HDC.out _).mono ?_;rintro e w' ⟨rfl,rfl⟩)
     go_ret2
     exact ⟨by rw [HF.out];rfl,rfl⟩
   ·have:k=D.size:=by omega
    subst this
    have hI:=HI.out
    rw [nrun_end] at hI
    have hfin:=numR_some 10 D n HNE.out hI
    clear hI HI
    by_cases hl:n < 4294967296
    ·rw [if_neg (by omega)] at hfin
     have HF:=Hi hfin
     clear hfin
     go_wp2
     go_ret2
     exact ⟨by rw [HF.out];rfl,rfl⟩
    ·have:n = 4294967296:=by omega
     subst this
     rw [if_pos rfl] at hfin
     have HF:=Hi hfin
     clear hfin
     go_wp2
     go_ret2
     exact ⟨by rw [HF.out];rfl,rfl⟩
 ·go_loop [7,20] (fun vn vi=>∃ k n:Nat,k≤D.size∧vi = .int .i64 k∧vn = .int .u64 n∧n≤4294967296∧Hid (nrun 16 D.data.toList 0=nrun 16 (D.data.toList.drop k) n)) (fun _ vi=>D.size - (intOf vi).toNat)
  case atStart=>exact ⟨0,0,by omega,rfl,rfl,by omega,Hi rfl⟩
  case round=>
   obtain ⟨k,n,hk,rfl,rfl,hn,HI⟩:=hrel
   clear hne hnil
   by_cases hlt:k < D.size
   ·have hb:D[k].toNat < 256:=D[k].toNat_lt
    have hdc:=digitC D[k].toNat hb
    have hdl:=dvN_le D[k].toNat
    by_cases hd:dvN D[k].toNat < 16
    ·have hst:=nrun_step 16 D k n hlt hd
     generalize dvN D[k].toNat=d at hdc hdl hd hst
     have HS:=Hi hst;have HDC:=Hi hdc
     clear hst hdc
     go_wp2_with (go_at_call 139;refine (HDC.out _).mono ?_;rintro e w' ⟨rfl,rfl⟩)
     go_round
     case rel=>exact ⟨k+1,min (n * 16+d) 4294967296,by omega,by go_num,by go_num,by omega,Hi (by rw [HI.out,HS.out])⟩
     case measure=>simp [intOf];omega
    ·have hst:=nrun_none 16 D k n hlt hd
     rw [←HI.out] at hst
     have hfin:=numR_none 16 D HNE.out hst
     generalize dvN D[k].toNat=d at hdc hdl hd
     have HF:=Hi hfin;have HDC:=Hi hdc
     clear hst hdc hfin
     go_wp2_with (go_at_call 139;refine (HDC.out _).mono ?_;rintro e w' ⟨rfl,rfl⟩)
     go_ret2
     exact ⟨by rw [HF.out];rfl,rfl⟩
   ·have:k=D.size:=by omega
    subst this
    have hI:=HI.out
    rw [nrun_end] at hI
    have hfin:=numR_some 16 D n HNE.out hI
    clear hI HI
    by_cases hl:n < 4294967296
    ·rw [if_neg (by omega)] at hfin
     have HF:=Hi hfin
     clear hfin
     go_wp2
     go_ret2
     exact ⟨by rw [HF.out];rfl,rfl⟩
    ·have:n = 4294967296:=by omega
     subst this
     rw [if_pos rfl] at hfin
     have HF:=Hi hfin
     clear hfin
     go_wp2
     go_ret2
     exact ⟨by rw [HF.out];rfl,rfl⟩
end Go.Proofs.YtpoepignpdfleaaGreatDoor.Num
namespace Go.Proofs.YtpoepignpdfleaaGreatDoor.Pa
open Go Go.ChangeShapes Go.WideShapes Go.ChangeAt Go.RowKit Lx Args
set_option linter.unusedVariables false
set_option linter.unusedSimpArgs false
section
attribute [local go_sem] fTk0 fTk1 fTk2
def numV(s:Bs):Nat×Nat:=Num.numR (if Lib.hasPrefix s [48,120]=true then 16 else 10) (Lib.trimPrefix s [48,120])
theorem numR_er(b:Nat)(L:List UInt8):(Num.numR b L).2 = 0∨(Num.numR b L).2 = 2∨(Num.numR b L).2 = 4:=by
 unfold Num.numR
 split
 ·exact .inr (.inr rfl)
 ·split
  ·exact .inr (.inr rfl)
  ·split
   ·exact .inr (.inl rfl)
   ·exact .inl rfl
theorem trim_len(s p:Bs):(Lib.trimPrefix s p).length≤s.length:=by
 unfold Lib.trimPrefix
 split
 ·rw [List.length_drop];omega
 ·exact Nat.le_refl _
theorem numC(s:Bs)(hs:s.length≤20000)(w:World):Calls Tryz.prog 137 #[.string ⟨s.toArray⟩] w fun e w'=>e = .returned (.tuple #[.int .u32 ((numV s).1:Int),.int .i64 ((numV s).2:Int)])∧w=w':=by
 have h:=Num.numC (Lib.hasPrefix s [48,120]) ⟨s.toArray⟩ ⟨(Lib.trimPrefix s [48,120]).toArray⟩ w rfl rfl (by
  have:=trim_len s [48,120]
  show (Lib.trimPrefix s [48,120]).toArray.size≤maxLen
  rw [List.size_toArray];unfold maxLen;omega)
 refine h.mono fun e w' h=>⟨h.1,h.2⟩
theorem number(w:World)(bp d:Nat)(t:Tk)(r:List Tk)(hp:PS w bp (t :: r) d)(hs:t.s.length≤20000)(hr:r≠[]) :
  Calls Tryz.prog 131 #[.pointer (some ⟨bp,0,none⟩)] w fun e w'=>
   ((numV t.s).2 = 0∧e = .returned (.int .u32 ((numV t.s).1:Int))∧PS w' bp r d∧UB bp w w')∨((numV t.s).2≠0∧e=panV t.at_ (if (numV t.s).2 = 4 then 100 else 150)∧UB bp w w'):=by
 have HN:=Hi (next w bp d t r hp)
 have HP:=Hi hp;have HR:=Hi hr
 have hC:=numC t.s hs
 have her:(numV t.s).2 = 0∨(numV t.s).2 = 2∨(numV t.s).2 = 4:=numR_er _ _
 generalize numV t.s=q at hC her ⊢
 obtain ⟨n,er⟩:=q
 dsimp only at hC her ⊢
 have HC:=Hi hC
 clear hp hr hC
 rcases her with rfl | rfl | rfl
 all_goals
  go_enter Tryz.func131,Tryz.ntmps131
  go_wp2_with fail
  refine HN.out.mono ?_
  rintro e w1 ⟨rfl,hb1⟩
  have HP1:=Hi (HP.out.below hb1)
  have HB1:=Hi hb1
  clear hb1
  go_wp2_with fail
  refine (HC.out _).mono ?_
  rintro e w' ⟨rfl,rfl⟩
  go_wp2_with fail
 ·refine (take w1 bp d t r HP1.out HR.out).mono ?_
  rintro e w2 ⟨rfl,hp2,hu2⟩
  have HP2:=Hi hp2;have HU2:=Hi ((below_UB (bp:=bp) HB1.out).trans hu2)
  clear hp2 hu2
  go_wp2_with fail
  go_ret
  exact ⟨rfl,HP2.out,HU2.out⟩
 ·refine (here w1 bp d t r 150 HP1.out).mono ?_
  rintro e w2 ⟨rfl,hb2⟩
  have HB2:=Hi (HB1.out.trans (hb2.mono HB1.out.size))
  clear hb2
  go_wp2_with fail
  exact ⟨rfl,rfl,below_UB HB2.out⟩
 ·refine (here w1 bp d t r 100 HP1.out).mono ?_
  rintro e w2 ⟨rfl,hb2⟩
  have HB2:=Hi (HB1.out.trans (hb2.mono HB1.out.size))
  clear hb2
  go_wp2_with fail
  exact ⟨rfl,rfl,below_UB HB2.out⟩
theorem nk_end(ps:List Bs){t u:Tk}{r:List Tk}(hk:t.k = 1)(hu:isS [44] u=false)(f:List Bs→List Tk→OO):namesK ps (t :: u :: r) f=f (ps ++ [t.s]) (u :: r):=by
 conv=>lhs;unfold namesK
 rw [if_pos hk,if_neg (by rw [hu];decide)]
theorem nk_go(ps:List Bs){t u:Tk}{r:List Tk}(hk:t.k = 1)(hu:isS [44] u=true)(f:List Bs→List Tk→OO):namesK ps (t :: u :: r) f=namesK (ps ++ [t.s]) r f:=by
 conv=>lhs;unfold namesK
 rw [if_pos hk,if_pos hu]
theorem nk_no(ps:List Bs){t:Tk}{r:List Tk}(hk:t.k≠1)(f:List Bs→List Tk→OO):namesK ps (t :: r) f=some (.bad t.at_ 100):=by
 cases r with
 | nil=>
  conv=>lhs;unfold namesK
  rw [if_neg hk];rfl
 | cons u r=>
  conv=>lhs;unfold namesK
  rw [if_neg hk];rfl
theorem infoSt:(Tryz.prog.info? 9).map (fun i=>(i.zero,i.size,i.bytes))=some (some (.string ⟨#[]⟩),1,16):=by kernel_rfl
def NmP(w:World)(bp d:Nat)(l:List Tk)(e:Ending)(w':World):Prop:=
 (∃ ps r g c,e = .returned (.slice (some ⟨g,0,none⟩) ps.length c)∧(∀ f,namesK [] l f=f ps r)∧PS w' bp r d∧Et r∧r <:+ l∧r.length < l.length∧Lies w' (some ⟨g,0,none⟩) (ps.map strV)∧w.heap.size≤g∧(ps.length≤4000∧ps.length≤c∧c≤maxLen)∧UB bp w w') ∨
 (∃ a,e=panV a 100∧(∀ f,namesK [] l f=some (.bad a 100))∧UB bp w w')
def NmI(w:World)(bp d:Nat)(l:List Tk)(ps:List Bs)(u:Tk)(r:List Tk)(g c:Nat)(W:World):Prop:=
 (∀ f,namesK [] l f=if isS [44] u=true then namesK ps r f else f ps (u :: r))∧PS W bp (u :: r) d∧Gt (u :: r)∧(u :: r) <:+ l∧(u :: r).length < l.length∧W.ownsRow w.heap.size 9 1 (.slice (some ⟨g,0,none⟩) ps.length c) ps.length (ps.map strV)∧ps.length+r.length≤4000∧UB bp w W
theorem et_ne{t:Tk}{r:List Tk}(h:Et (t :: r))(ht:t.k≠0):∃ u r',r=u :: r':=by
 have:=et_tail h ht
 cases r with
 | nil=>exact absurd this et_nil
 | cons u r'=>exact ⟨u,r',rfl⟩
theorem own_str{w:World}{lo g c:Nat}{ps:List Bs}(h:w.ownsRow lo 9 1 (.slice (some ⟨g,0,none⟩) ps.length c) ps.length (ps.map strV)):Lies w (some ⟨g,0,none⟩) (ps.map strV)∧lo≤g:=
 ⟨fun j u hj=>⟨_,rfl,h.cells (g:=g) rfl j u hj⟩,(own_at h).1⟩
def lenAt(w:World)(bp:Nat):Nat:=match w.cell? ⟨bp,0,none⟩ with | some (.slice _ n _)=>n | _=>0
theorem PS.len{w:World}{bp:Nat}{l:List Tk}{d:Nat}(h:PS w bp l d):lenAt w bp=l.length:=by
 obtain ⟨b,o,c,_,h1,_⟩:=h
 unfold lenAt
 rw [show w.cell? ⟨bp,0,none⟩=some (.slice (some ⟨b,o,none⟩) l.length c) from h1.cell 0]
theorem nm_next{w wr w5 w8:World}{bp d g c g8 c8:Nat}{l r3:List Tk}{ps:List Bs}{u v v2:Tk}{X:Array Value}(HH:NmI w bp d l ps u (v :: v2 :: r3) g c wr)(hlt:bp < w.heap.size)(hon:isS [44] u=true)(hk:v.k = 1)(hgv:Gt (v :: v2 :: r3))(hU:UB bp wr w5)(hP:PS w5 bp (v2 :: r3) d)
  (hE:AppE w.heap.size 9 1 (w5.alloc (.cells X 9)) (.slice (some ⟨g,0,none⟩) ps.length c) ps.length 1 (ps.map strV ++ [.string ⟨v.s.toArray⟩]) g8 c8 w8):NmI w bp d l (ps ++ [v.s]) v2 r3 g8 c8 w8:=by
 obtain ⟨h1,h2,h3,h4,h5,h6,h7,h8⟩:=HH
 have hg:=own_at h6
 have hu8:Upd (fun b=>b=bp∨b=g) wr w8:=((hU.mono fun k hk=>Or.inl hk).alloc _).grown hE.grown fun k hk _=>by cases hk;exact .inr rfl
 have hu58:Upd (fun b=>b=g) w5 w8:=((Upd.refl _ w5).alloc _).grown hE.grown fun k hk _=>by cases hk;rfl
 refine ⟨fun f=>?_,hP.far hu58 fun b hb=>by omega,hgv.tail (by omega),(List.suffix_cons _ _).trans ((List.suffix_cons _ _).trans h4),by simp only [List.length_cons] at h5 ⊢;omega,?_,by simp only [List.length_append,List.length_cons,List.length_nil] at h7 ⊢;omega,?_⟩
 ·rw [h1 f,if_pos hon]
  by_cases hu:isS [44] v2=true
  ·rw [if_pos hu,nk_go _ hk hu]
  ·rw [if_neg hu,nk_end _ hk (by simpa using hu)]
 ·rw [List.length_append,List.map_append];exact hE.own
 ·exact ((h8.mono fun k hk=>Or.inl hk).trans hu8).fresh fun k hk hs=>by
   rcases hk with hk | hk
   ·exact hk
   ·subst hk;exact absurd hs (by omega)
theorem names(w:World)(bp d:Nat)(l:List Tk)(hp:PS w bp l d)(hg:Gt l) :
  Calls Tryz.prog 76 #[.pointer (some ⟨bp,0,none⟩)] w (NmP w bp d l):=by
 obtain ⟨t,r,rfl⟩:=hg.cons
 have hlt:=hp.lt
 obtain ⟨i0,hi,hz⟩:=Option.map_eq_some_iff.1 infoSt
 have hz0:=congrArg (·.1) hz;have hz1:=congrArg (·.2.1) hz;have hz2:=congrArg (·.2.2) hz
 have HI:=Hi hi;have HZ0:=Hi hz0;have HZ1:=Hi hz1;have HZ2:=Hi hz2
 clear hi hz hz0 hz1 hz2
 by_cases hk:t.k = 1
 ·obtain ⟨u,r,rfl⟩:=et_ne hg.et (by omega)
  have HN:=Hi (name_yes w bp d t (u :: r) hp hk (by simp))
  have HG:=Hi (hg.tail (by omega))
  have HF:Hid (∀ f,namesK [] (t :: u :: r) f=if isS [44] u=true then namesK [t.s] r f else f [t.s] (u :: r)):=Hi fun f=>by
   by_cases hu:isS [44] u=true
   ·rw [if_pos hu,nk_go _ hk hu];rfl
   ·rw [if_neg hu,nk_end _ hk (by simpa using hu)];rfl
  have hfw:=hg.few
  have HFW:Hid (r.length+2≤4000):=Hi (by simpa using hfw)
  clear hp hg hk hfw
  go_enter Tryz.func76,Tryz.ntmps76
  go_wp2_with fail
  refine HN.out.mono ?_
  rintro e w1 ⟨rfl,hp1,hu1⟩
  have HJ:Hid (NmI w bp d (t :: u :: r) [t.s] u r w1.heap.size 1 (w1.alloc (.cells #[.string ⟨t.s.toArray⟩] 9))):=Hi ⟨HF.out,hp1.below ((Below.refl _ _).alloc (Nat.le_refl _) _),HG.out,List.suffix_cons _ _,by simp,
   own_full w1 hu1.size 9 1 1 [.string ⟨t.s.toArray⟩] rfl (by decide),by have:=HFW.out;simp;omega,(hu1.alloc _)⟩
  clear hp1 hu1 HF HN HG HFW
  go_wp2_with fail
  go_loopw [3] (fun vl wr=>∃ ps u' r' g c,vl = .slice (some ⟨g,0,none⟩) ps.length c∧Hid (NmI w bp d (t :: u :: r) ps u' r' g c wr)) (fun _ wr=>lenAt wr bp)
  case atStart=>exact ⟨[t.s],u,r,_,_,rfl,HJ⟩
  case round=>
   clear HJ
   obtain ⟨ps,u',r',g,c,rfl,HH⟩:=hrel
   have HIS:=Hi (is_ wr bp d u' r' [44] HH.out.2.1)
   by_cases hc:(u'.s==[44])=true
   ·rw [hc] at HIS
    have hu':u'.k≠0:=by
     have:=okt_lit HH.out.2.2.1.hd (by rw [eq_of_beq hc];decide)
     omega
    obtain ⟨v,r'',rfl⟩:=et_ne HH.out.2.2.1.et hu'
    have hon:isS [44] u'=true:=by rw [isS_eq HH.out.2.2.1.hd (by decide)];exact hc
    go_wp2_with fail
    refine HIS.out.mono ?_
    rintro e w3 ⟨rfl,hb3⟩
    have HT:=Hi (take w3 bp d u' (v :: r'') (HH.out.2.1.below hb3) (by simp))
    have HB3:=Hi hb3
    clear hb3
    go_wp2_with fail
    refine HT.out.mono ?_
    rintro e w4 ⟨rfl,hp4,hu4⟩
    have hu4':UB bp wr w4:=(below_UB HB3.out).trans hu4
    have hgv:Gt (v :: r''):=HH.out.2.2.1.tail hu'
    by_cases hk:v.k = 1
    ·obtain ⟨v2,r3,rfl⟩:=et_ne hgv.et (by omega)
     have HN:=Hi (name_yes w4 bp d v (v2 :: r3) hp4 hk (by simp))
     have HU4:=Hi hu4'
     clear hp4 hu4 hu4' hc
     go_wp2_with fail
     refine HN.out.mono ?_
     rintro e w5 ⟨rfl,hp5,hu5⟩
     have hu5':UB bp wr w5:=HU4.out.trans hu5
     have HU5:=Hi hu5'
     have how:w5.ownsRow w.heap.size 9 1 (.slice (some ⟨g,0,none⟩) ps.length c) ps.length (ps.map strV):=own_upd3 HH.out.2.2.2.2.2.1 hu5' (by have:=(own_at HH.out.2.2.2.2.2.1).1;omega)
     have HOA:=Hi (World.ownsRow.alloc how (.cells #[.string ⟨v.s.toArray⟩] 9))
     have HLI:=Hi (lies_full w5 9 [.string ⟨v.s.toArray⟩])
     have hsz:w.heap.size≤w5.heap.size:=Nat.le_trans HH.out.2.2.2.2.2.2.2.size hu5'.size
     have HBS:=Hi (show w.heap.size≤(w5.alloc (.cells #[.string ⟨v.s.toArray⟩] 9)).heap.size by simp;omega)
     have hfew:ps.length+(u' :: v :: v2 :: r3).length≤4001:=by have:=HH.out.2.2.2.2.2.2.1;simp at this ⊢;omega
     have HP5:=Hi hp5
     simp only [List.length_cons] at hfew
     clear hp5 hu5 hu5' how hsz
     go_wp2_with (at_builtin;refine wpList_where rfl _ _ 24 rfl w.heap.size 9 i0 (.string ⟨#[]⟩) 1 16 Tryz.underlying24 HI.out HZ0.out HZ1.out HZ2.out rfl (by decide) _ ps.length _ rfl HOA.out ⟨w5.heap.size,0,none⟩ 1 1 [.string ⟨v.s.toArray⟩] rfl rfl HLI.out (by simp [Value.oneCell']) (by unfold maxLen;omega) (by omega) HBS.out (by decide) ?_;intro g8 c8 w8 hE;have HE:=Hi hE;clear hE)
     go_roundw
     case rel=>exact ⟨ps ++ [v.s],v2,r3,g8,c8,by rw [List.length_append];rfl,Hi (nm_next HH.out hlt hon hk hgv HU5.out HP5.out HE.out)⟩
     case measure=>
      have e8:=PS.len (nm_next HH.out hlt hon hk hgv HU5.out HP5.out HE.out).2.1
      have er:=PS.len HH.out.2.1
      rw [e8,er]
      simp
    ·have HN:=Hi (name_no w4 bp d v r'' hp4 hk)
     have HU4:=Hi hu4'
     clear hp4 hu4 hu4' hc
     go_wp2_with fail
     refine HN.out.mono ?_
     rintro e w5 ⟨rfl,hu5⟩
     have HU5:=Hi (HU4.out.trans hu5)
     clear hu5
     go_wp2_with fail
     refine ⟨rfl,.inr ⟨_,rfl,fun f=>?_,HH.out.2.2.2.2.2.2.2.trans HU5.out⟩⟩
     rw [HH.out.1 f,if_pos hon,nk_no _ hk]
   ·have hc':(u'.s==[44])=false:=by simpa using hc
    rw [hc'] at HIS
    have hon:isS [44] u'=false:=by rw [isS_eq HH.out.2.2.1.hd (by decide)];exact hc'
    clear hc hc'
    go_wp2_with fail
    refine HIS.out.mono ?_
    rintro e w3 ⟨rfl,hb3⟩
    have HB3:=Hi hb3
    clear hb3
    go_wp2_with fail
    go_ret
    obtain ⟨k1,k2,k3,k4,k5,k6,k7,k8⟩:=HH.out
    have hs:=own_str k6
    refine .inl ⟨ps,u' :: r',g,c,rfl,fun f=>?_,k2.below HB3.out,k3.et,k4,k5,hs.1.below HB3.out,hs.2,⟨by omega,(own_cap k6 (by omega)).le,(own_cap k6 (by omega)).cap⟩,k8.trans (below_UB HB3.out)⟩
    rw [k1 f,hon];rfl
 ·have HN:=Hi (name_no w bp d t r hp hk)
  clear hp hg
  go_enter Tryz.func76,Tryz.ntmps76
  go_wp2_with fail
  refine HN.out.mono ?_
  rintro e w1 ⟨rfl,hu1⟩
  have HU1:=Hi hu1
  clear hu1
  go_wp2_with fail
  exact ⟨rfl,.inr ⟨_,rfl,fun f=>nk_no _ hk f,HU1.out⟩⟩
end
section
attribute [local go_sem] fTk0 fTk1 fTk2
def OutP(w:World)(bp d:Nat)(l:List Tk)(R:Out→Prop)(e:Ending)(w':World):Prop:=
 (∃ k a s n A la cA B lb cB x r,e = .returned (.agg #[.int .i64 (k:Nat),.string ⟨(s:Bs).toArray⟩,.int .u32 (n:Nat),.int .i64 (a:Nat),.slice A la cA,.slice B lb cB])∧TIn (fun b=>w.heap.size≤b) w' x (ndC k a s n A la cA B lb cB)∧R (.ok [x] r) ∧
  PS w' bp r d∧Gt r∧r.length < l.length∧UB bp w w') ∨
 (∃ a er,e=panV a er∧R (.bad a er)∧UB bp w w')
theorem OutP.imp{w:World}{bp d:Nat}{l:List Tk}{R R':Out→Prop}{e:Ending}{w':World}(h:OutP w bp d l R e w')(hR:∀ o,R o→R' o):OutP w bp d l R' e w':=by
 rcases h with ⟨k,a,s,n,A,la,cA,B,lb,cB,x,r,h1,h2,h3,h4⟩ | ⟨a,er,h1,h2,h3⟩
 ·exact .inl ⟨k,a,s,n,A,la,cA,B,lb,cB,x,r,h1,h2,hR _ h3,h4⟩
 ·exact .inr ⟨a,er,h1,hR _ h2,h3⟩
theorem TIn.up{lo lo':Nat}{w:World}{x:Tr}{c:List Value}(h:TIn (fun b=>lo≤b) w x c)(hl:lo'≤lo):TIn (fun b=>lo'≤b) w x c:=h.mono fun b hb _=>Nat.le_trans hl hb
theorem TIn.far{X:Nat→Prop}{lo:Nat}{w w':World}{x:Tr}{c:List Value}(h:TIn (fun b=>lo≤b) w x c)(hu:Upd X w w')(hX:∀ b,X b→b < lo):TIn (fun b=>lo≤b) w' x c:=h.upd hu fun b hb hx=>by have:=hX b hx;omega
theorem out_ok{w w1:World}{bp d lo:Nat}{l r:List Tk}{R:Out→Prop}{k a n la cA lb cB:Nat}{s:Bs}{A B:Option Addr}{x:Tr}(hlt:bp < w.heap.size)(hg:w.heap.size < lo)(hT:TIn (fun b=>lo≤b) w1 x (ndC k a s n A la cA B lb cB))(hR:R (.ok [x] r))(hP:PS w1 bp r d)(hG:Gt r)(hr:r.length < l.length)(hU:UB bp w w1) :
  OutP w bp d l R (.returned (.agg #[.int .i64 (k:Int),.string ⟨s.toArray⟩,.int .u32 (n:Int),.int .i64 (a:Int),.slice A la cA,.slice B lb cB])) (put6 w1 w.heap.size (.int .i64 (k:Int)) (.string ⟨s.toArray⟩) (.int .u32 (n:Int)) (.int .i64 (a:Int)) (.slice A la cA) (.slice B lb cB)):=by
 have hu:Upd (fun b=>b=w.heap.size) w1 (put6 w1 w.heap.size (.int .i64 (k:Int)) (.string ⟨s.toArray⟩) (.int .u32 (n:Int)) (.int .i64 (a:Int)) (.slice A la cA) (.slice B lb cB)):=put6_upd (X:=fun b=>b=w.heap.size) (Upd.refl _ _) (fun _=>rfl) _ _ _ _ _ _
 refine .inl ⟨k,a,s,n,A,la,cA,B,lb,cB,x,r,rfl,?_,hR,hP.far hu fun b hb=>by omega,hG,hr,?_⟩
 ·exact (TIn.far hT hu fun b hb=>by omega).up (Nat.le_of_lt hg)
 ·exact put6_upd hU (fun h=>absurd h (Nat.lt_irrefl _)) _ _ _ _ _ _
theorem expr(w:World)(bp d:Nat)(l:List Tk)(hp:PS w bp l d)
  (hS:∀ w0,PS w0 bp l d→Calls Tryz.prog 100 #[.pointer (some ⟨bp,0,none⟩),.int .i64 1] w0 (OutP w0 bp d l (Rd numV (.lev 0) d l))) :
  Calls Tryz.prog 79 #[.pointer (some ⟨bp,0,none⟩)] w (OutP w bp d l (Rd numV (.lev 0) d l)):=by
 obtain ⟨w0,hw0⟩:∃ w0,w.alloc (.cells #[.int .i64 0,.string ⟨#[]⟩,.int .u32 0,.int .i64 0,.slice none 0 0,.slice none 0 0] 26)=w0:=⟨_,rfl⟩
 have hb0:Below w.heap.size w w0:=by rw [←hw0];exact (Below.refl _ _).alloc (Nat.le_refl _) _
 have hB:Blk w0 w.heap.size 26 #[.int .i64 0,.string ⟨#[]⟩,.int .u32 0,.int .i64 0,.slice none 0 0,.slice none 0 0]:=by rw [←hw0];exact Blk.new _ _ _
 have hlt:=hp.lt
 have HS:=Hi (hS w0 (hp.below hb0))
 have HB0:=Hi hb0;have HB:=Hi hB;have HW:=Hi hw0
 clear hb0 hp hw0 hB hS
 go_enter Tryz.func79,Tryz.ntmps79
 go_wp2_with fail
 rw [HW.out]
 refine HS.out.mono ?_
 rintro e w1 (⟨k,a,s,n,A,la,cA,B,lb,cB,x,r,rfl,hT,hR,hP,hG,hr,hU⟩ | ⟨a,er,rfl,hR,hU⟩)
 ·have h1:Blk w1 w.heap.size 26 #[.int .i64 0,.string ⟨#[]⟩,.int .u32 0,.int .i64 0,.slice none 0 0,.slice none 0 0]:=HB.out.upd hU (by omega)
  obtain ⟨⟨e0,e1,e2,e3,e4,e5⟩,z0,z1,z2,z3,z4,z5⟩:=Blk.c6 h1
  have H1:=Hi h1
  have HT:=Hi hT;have HR:=Hi hR;have HP:=Hi hP;have HG:=Hi hG;have HU:=Hi hU
  clear h1 hT hR hP hG hU
  go_wp2_with fail
  exact bodyPost_ret (resNd rfl rfl (Blk.put6 H1.out _ _ _ _ _ _) rfl) rfl (out_ok hlt HB.out.lt HT.out HR.out HP.out HG.out hr ((below_UB HB0.out).trans HU.out))
 ·have HR:=Hi hR;have HU:=Hi hU
  clear hR hU
  go_wp2_with fail
  exact ⟨rfl,.inr ⟨a,er,rfl,HR.out,(below_UB HB0.out).trans HU.out⟩⟩
theorem OutP.below{w:World}{bp d:Nat}{l:List Tk}{R:Out→Prop}{e:Ending}{w1 w2:World}(h:OutP w bp d l R e w1)(hb:Below w1.heap.size w1 w2):OutP w bp d l R e w2:=by
 rcases h with ⟨k,a,s,n,A,la,cA,B,lb,cB,x,r,h1,h2,h3,h4,h5,h6,h7⟩ | ⟨a,er,h1,h2,h3⟩
 ·exact .inl ⟨k,a,s,n,A,la,cA,B,lb,cB,x,r,h1,h2.upd (Upd.of_below hb fun _=>False) (fun _ _ h=>h),h3,h4.below hb,h5,h6,h7.trans (below_UB hb)⟩
 ·exact .inr ⟨a,er,h1,h2,h3.trans (below_UB hb)⟩
theorem PS.dc{w:World}{bp d:Nat}{l:List Tk}(h:PS w bp l d):w.cell? ⟨bp,1,none⟩=some (.int .i64 (d:Int))∧w.frozen? ⟨bp,1,none⟩=false:=by
 obtain ⟨b,o,c,_,h1,_⟩:=h;exact ⟨h1.cell 1,h1.frozen 1⟩
theorem within_deep(F:Nat)(w:World)(bp:Nat)(t:Tk)(r:List Tk)(hp:PS w bp (t :: r) 60) :
  Calls Tryz.prog 101 #[.pointer (some ⟨bp,0,none⟩),.func (.func F) #[.pointer (some ⟨bp,0,none⟩)] #[]] w fun e w'=>e=panV t.at_ 150∧UB bp w w':=by
 obtain ⟨w0,hw0⟩:∃ w0,w.alloc (.cells #[.int .i64 0,.string ⟨#[]⟩,.int .u32 0,.int .i64 0,.slice none 0 0,.slice none 0 0] 26)=w0:=⟨_,rfl⟩
 have hb0:Below w.heap.size w w0:=by rw [←hw0];exact (Below.refl _ _).alloc (Nat.le_refl _) _
 have HH:=Hi (here w0 bp 60 t r 150 (hp.below hb0))
 obtain ⟨f1,f3⟩:=hp.dc
 have hlt:=hp.lt
 have HB0:=Hi hb0;have HW:=Hi hw0
 clear hb0 hp hw0
 go_enter Tryz.func101,Tryz.ntmps101
 go_wp2_with fail
 rw [HW.out]
 refine HH.out.mono ?_
 rintro e w1 ⟨rfl,hb1⟩
 have HB1:=Hi (HB0.out.trans (hb1.mono HB0.out.size))
 clear hb1
 go_wp2_with fail
 exact ⟨rfl,rfl,below_UB HB1.out⟩
theorem within_expr(R:Out→Prop)(w:World)(bp d:Nat)(l:List Tk)(hd:d < 60)(hp:PS w bp l d)
  (hS:∀ w0,PS w0 bp l (d+1)→Calls Tryz.prog 79 #[.pointer (some ⟨bp,0,none⟩)] w0 (OutP w0 bp (d+1) l R)) :
  Calls Tryz.prog 101 #[.pointer (some ⟨bp,0,none⟩),.func (.func 79) #[.pointer (some ⟨bp,0,none⟩)] #[]] w (OutP w bp d l R):=by
 obtain ⟨f1,f3⟩:=hp.dc
 have hlt:=hp.lt
 have hne:((d:Int)==60)=false:=by simp;omega
 obtain ⟨w0,hw0⟩:∃ w0,(w.setCell ⟨bp,1,none⟩ (.int .i64 ((d:Int)+1))).alloc (.cells #[.int .i64 0,.string ⟨#[]⟩,.int .u32 0,.int .i64 0,.slice none 0 0,.slice none 0 0] 26)=w0:=⟨_,rfl⟩
 have hsz:(w.setCell ⟨bp,1,none⟩ (.int .i64 ((d:Int)+1))).heap.size=w.heap.size:=by simp
 have hp0:PS w0 bp l (d+1):=by
  have h:=(hp.deep (d+1)).below ((Below.refl _ _).alloc (Nat.le_refl _) (.cells #[.int .i64 0,.string ⟨#[]⟩,.int .u32 0,.int .i64 0,.slice none 0 0,.slice none 0 0] 26))
  rw [←hw0];exact_mod_cast h
 have hB:Blk w0 w.heap.size 26 #[.int .i64 0,.string ⟨#[]⟩,.int .u32 0,.int .i64 0,.slice none 0 0,.slice none 0 0]:=by rw [←hw0,←hsz];exact Blk.new _ _ _
 have hU0:UB bp w w0:=by rw [←hw0];exact ((Upd.refl (fun b=>b=bp) w).setCell (fun _=>rfl) _).alloc _
 have HS:=Hi (hS w0 hp0)
 have HB:=Hi hB;have HW:=Hi hw0;have HU0:=Hi hU0
 clear hp hp0 hB hU0 hw0 hS hsz
 go_enter Tryz.func101,Tryz.ntmps101
 go_wp2_with fail
 rw [HW.out]
 refine HS.out.mono ?_
 rintro e w1 (⟨k,a,s,n,A,la,cA,B,lb,cB,x,r,rfl,hT,hR,hP,hG,hr,hU⟩ | ⟨a,er,rfl,hR,hU⟩)
 ·obtain ⟨g1,g3⟩:=hP.dc
  have h1:Blk w1 w.heap.size 26 #[.int .i64 0,.string ⟨#[]⟩,.int .u32 0,.int .i64 0,.slice none 0 0,.slice none 0 0]:=HB.out.upd hU (by omega)
  obtain ⟨⟨e0,e1,e2,e3,e4,e5⟩,z0,z1,z2,z3,z4,z5⟩:=Blk.c6 h1
  have hlt1:=hP.lt
  have hlg:=h1.lt
  have hgb:w.heap.size≠bp:=by omega
  have H1:=Hi h1
  have HT:=Hi hT;have HR:=Hi hR;have HP:=Hi hP;have HG:=Hi hG;have HU:=Hi hU
  clear h1 hT hR hP hG hU
  go_wp2_with fail
  refine bodyPost_ret (resNd rfl rfl ((Blk.put6 (H1.out.far hgb _) _ _ _ _ _ _).alloc _) rfl) rfl ?_
  have hs1:UB bp w1 (w1.setCell ⟨bp,1,none⟩ (.int .i64 (d:Int))):=(Upd.refl (fun b=>b=bp) w1).setCell (fun _=>rfl) _
  exact (out_ok hlt HB.out.lt (TIn.far HT.out hs1 fun b hb=>by have:=HB.out.lt;omega) HR.out (HP.out.deep d) HG.out hr ((HU0.out.trans HU.out).trans hs1)).below ((Below.refl _ _).alloc (Nat.le_refl _) _)
 ·have HR:=Hi hR;have HU:=Hi (HU0.out.trans hU)
  clear hR hU
  go_wp2_with fail
  exact ⟨rfl,.inr ⟨a,er,rfl,HR.out,HU.out⟩⟩
theorem within_unary(R:Out→Prop)(w:World)(bp d:Nat)(l:List Tk)(hd:d < 60)(hp:PS w bp l d)
  (hS:∀ w0,PS w0 bp l (d+1)→Calls Tryz.prog 115 #[.pointer (some ⟨bp,0,none⟩)] w0 (OutP w0 bp (d+1) l R)) :
  Calls Tryz.prog 101 #[.pointer (some ⟨bp,0,none⟩),.func (.func 115) #[.pointer (some ⟨bp,0,none⟩)] #[]] w (OutP w bp d l R):=by
 obtain ⟨f1,f3⟩:=hp.dc
 have hlt:=hp.lt
 have hne:((d:Int)==60)=false:=by simp;omega
 obtain ⟨w0,hw0⟩:∃ w0,(w.setCell ⟨bp,1,none⟩ (.int .i64 ((d:Int)+1))).alloc (.cells #[.int .i64 0,.string ⟨#[]⟩,.int .u32 0,.int .i64 0,.slice none 0 0,.slice none 0 0] 26)=w0:=⟨_,rfl⟩
 have hsz:(w.setCell ⟨bp,1,none⟩ (.int .i64 ((d:Int)+1))).heap.size=w.heap.size:=by simp
 have hp0:PS w0 bp l (d+1):=by
  have h:=(hp.deep (d+1)).below ((Below.refl _ _).alloc (Nat.le_refl _) (.cells #[.int .i64 0,.string ⟨#[]⟩,.int .u32 0,.int .i64 0,.slice none 0 0,.slice none 0 0] 26))
  rw [←hw0];exact_mod_cast h
 have hB:Blk w0 w.heap.size 26 #[.int .i64 0,.string ⟨#[]⟩,.int .u32 0,.int .i64 0,.slice none 0 0,.slice none 0 0]:=by rw [←hw0,←hsz];exact Blk.new _ _ _
 have hU0:UB bp w w0:=by rw [←hw0];exact ((Upd.refl (fun b=>b=bp) w).setCell (fun _=>rfl) _).alloc _
 have HS:=Hi (hS w0 hp0)
 have HB:=Hi hB;have HW:=Hi hw0;have HU0:=Hi hU0
 clear hp hp0 hB hU0 hw0 hS hsz
 go_enter Tryz.func101,Tryz.ntmps101
 go_wp2_with fail
 rw [HW.out]
 refine HS.out.mono ?_
 rintro e w1 (⟨k,a,s,n,A,la,cA,B,lb,cB,x,r,rfl,hT,hR,hP,hG,hr,hU⟩ | ⟨a,er,rfl,hR,hU⟩)
 ·obtain ⟨g1,g3⟩:=hP.dc
  have h1:Blk w1 w.heap.size 26 #[.int .i64 0,.string ⟨#[]⟩,.int .u32 0,.int .i64 0,.slice none 0 0,.slice none 0 0]:=HB.out.upd hU (by omega)
  obtain ⟨⟨e0,e1,e2,e3,e4,e5⟩,z0,z1,z2,z3,z4,z5⟩:=Blk.c6 h1
  have hlt1:=hP.lt
  have hlg:=h1.lt
  have hgb:w.heap.size≠bp:=by omega
  have H1:=Hi h1
  have HT:=Hi hT;have HR:=Hi hR;have HP:=Hi hP;have HG:=Hi hG;have HU:=Hi hU
  clear h1 hT hR hP hG hU
  go_wp2_with fail
  refine bodyPost_ret (resNd rfl rfl ((Blk.put6 (H1.out.far hgb _) _ _ _ _ _ _).alloc _) rfl) rfl ?_
  have hs1:UB bp w1 (w1.setCell ⟨bp,1,none⟩ (.int .i64 (d:Int))):=(Upd.refl (fun b=>b=bp) w1).setCell (fun _=>rfl) _
  exact (out_ok hlt HB.out.lt (TIn.far HT.out hs1 fun b hb=>by have:=HB.out.lt;omega) HR.out (HP.out.deep d) HG.out hr ((HU0.out.trans HU.out).trans hs1)).below ((Below.refl _ _).alloc (Nat.le_refl _) _)
 ·have HR:=Hi hR;have HU:=Hi (HU0.out.trans hU)
  clear hR hU
  go_wp2_with fail
  exact ⟨rfl,.inr ⟨a,er,rfl,HR.out,HU.out⟩⟩
theorem within_inner(R:Out→Prop)(w:World)(bp d:Nat)(l:List Tk)(hd:d < 60)(hp:PS w bp l d)
  (hS:∀ w0,PS w0 bp l (d+1)→Calls Tryz.prog 64 #[.pointer (some ⟨bp,0,none⟩)] w0 (OutP w0 bp (d+1) l R)) :
  Calls Tryz.prog 101 #[.pointer (some ⟨bp,0,none⟩),.func (.func 64) #[.pointer (some ⟨bp,0,none⟩)] #[]] w (OutP w bp d l R):=by
 obtain ⟨f1,f3⟩:=hp.dc
 have hlt:=hp.lt
 have hne:((d:Int)==60)=false:=by simp;omega
 obtain ⟨w0,hw0⟩:∃ w0,(w.setCell ⟨bp,1,none⟩ (.int .i64 ((d:Int)+1))).alloc (.cells #[.int .i64 0,.string ⟨#[]⟩,.int .u32 0,.int .i64 0,.slice none 0 0,.slice none 0 0] 26)=w0:=⟨_,rfl⟩
 have hsz:(w.setCell ⟨bp,1,none⟩ (.int .i64 ((d:Int)+1))).heap.size=w.heap.size:=by simp
 have hp0:PS w0 bp l (d+1):=by
  have h:=(hp.deep (d+1)).below ((Below.refl _ _).alloc (Nat.le_refl _) (.cells #[.int .i64 0,.string ⟨#[]⟩,.int .u32 0,.int .i64 0,.slice none 0 0,.slice none 0 0] 26))
  rw [←hw0];exact_mod_cast h
 have hB:Blk w0 w.heap.size 26 #[.int .i64 0,.string ⟨#[]⟩,.int .u32 0,.int .i64 0,.slice none 0 0,.slice none 0 0]:=by rw [←hw0,←hsz];exact Blk.new _ _ _
 have hU0:UB bp w w0:=by rw [←hw0];exact ((Upd.refl (fun b=>b=bp) w).setCell (fun _=>rfl) _).alloc _
 have HS:=Hi (hS w0 hp0)
 have HB:=Hi hB;have HW:=Hi hw0;have HU0:=Hi hU0
 clear hp hp0 hB hU0 hw0 hS hsz
 go_enter Tryz.func101,Tryz.ntmps101
 go_wp2_with fail
 rw [HW.out]
 refine HS.out.mono ?_
 rintro e w1 (⟨k,a,s,n,A,la,cA,B,lb,cB,x,r,rfl,hT,hR,hP,hG,hr,hU⟩ | ⟨a,er,rfl,hR,hU⟩)
 ·obtain ⟨g1,g3⟩:=hP.dc
  have h1:Blk w1 w.heap.size 26 #[.int .i64 0,.string ⟨#[]⟩,.int .u32 0,.int .i64 0,.slice none 0 0,.slice none 0 0]:=HB.out.upd hU (by omega)
  obtain ⟨⟨e0,e1,e2,e3,e4,e5⟩,z0,z1,z2,z3,z4,z5⟩:=Blk.c6 h1
  have hlt1:=hP.lt
  have hlg:=h1.lt
  have hgb:w.heap.size≠bp:=by omega
  have H1:=Hi h1
  have HT:=Hi hT;have HR:=Hi hR;have HP:=Hi hP;have HG:=Hi hG;have HU:=Hi hU
  clear h1 hT hR hP hG hU
  go_wp2_with fail
  refine bodyPost_ret (resNd rfl rfl ((Blk.put6 (H1.out.far hgb _) _ _ _ _ _ _).alloc _) rfl) rfl ?_
  have hs1:UB bp w1 (w1.setCell ⟨bp,1,none⟩ (.int .i64 (d:Int))):=(Upd.refl (fun b=>b=bp) w1).setCell (fun _=>rfl) _
  exact (out_ok hlt HB.out.lt (TIn.far HT.out hs1 fun b hb=>by have:=HB.out.lt;omega) HR.out (HP.out.deep d) HG.out hr ((HU0.out.trans HU.out).trans hs1)).below ((Below.refl _ _).alloc (Nat.le_refl _) _)
 ·have HR:=Hi hR;have HU:=Hi (HU0.out.trans hU)
  clear hR hU
  go_wp2_with fail
  exact ⟨rfl,.inr ⟨a,er,rfl,HR.out,HU.out⟩⟩
end
end Go.Proofs.YtpoepignpdfleaaGreatDoor.Pa
