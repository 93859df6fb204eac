/- DERIVED. PaSq, PaNd, PaAr. By an AI agent. -/
import Derived.Test.YtcgibpdjfgjldaaGreatDoorQ01
import Derived.Test.YtcgibpdjfgjldaaGreatDoorQ12
import Derived.Test.YtcgibpdjfgjldaaGreatDoorQ02
set_option maxRecDepth 100000
set_option maxHeartbeats 4000000
set_option linter.unusedVariables false
set_option linter.unusedSimpArgs false
namespace Go.Proofs.YtcgibpdjfgjldaaGreatDoor.Pa
open Go Go.ChangeShapes Go.WideShapes Go.ChangeAt Go.RowKit Lx Args
section
attribute [local go_sem] fTk0 fTk1 fTk2
def numV(s:Bs):Nat×Nat:=Num.numR (if Lib.hasPrefix s [48,120]=true then 16 else 10) (Lib.trimPrefix s [48,120])
theorem numR_er(b:Nat)(L:List UInt8):(Num.numR b L).2 = 0∨(Num.numR b L).2 = 2∨(Num.numR b L).2 = 4:=by
 unfold Num.numR;split
 ·exact .inr (.inr rfl)
 ·split
  ·exact .inr (.inr rfl)
  ·split
   ·exact .inr (.inl rfl)
   ·exact .inl rfl
theorem trim_len(s p:Bs):(Lib.trimPrefix s p).length≤s.length:=by
 unfold Lib.trimPrefix;split
 ·rw [List.length_drop];omega
 ·exact Nat.le_refl _
theorem numC(s:Bs)(hs:s.length≤20000)(w:World):Calls Tryz.prog 204 #[.string ⟨s.toArray⟩] w fun e w'=>e = .returned (.tuple #[.int .u32 ((numV s).1:Int),.int .i64 ((numV s).2:Int)])∧w=w':=by
 have h:=Num.numC (Lib.hasPrefix s [48,120]) ⟨s.toArray⟩ ⟨(Lib.trimPrefix s [48,120]).toArray⟩ w rfl rfl (by
  have:=trim_len s [48,120];show (Lib.trimPrefix s [48,120]).toArray.size≤maxLen;rw [List.size_toArray];unfold maxLen;omega)
 refine h.mono fun e w' h=>⟨h.1,h.2⟩
theorem number(w:World)(bp d:Nat)(t:Tk)(r:List Tk)(hp:PS w bp (t :: r) d)(hs:t.s.length≤20000)(hr:r≠[]) :
  Calls Tryz.prog 186 #[.pointer (some ⟨bp,0,none⟩)] w fun e w'=>
   ((numV t.s).2 = 0∧e = .returned (.int .u32 ((numV t.s).1:Int))∧PS w' bp r d∧UB bp w w')∨((numV t.s).2≠0∧e=panV t.at_ (if (numV t.s).2 = 4 then 100 else 150)∧UB bp w w'):=by
 have HN:=Hi (next w bp d t r hp);have HP:=Hi hp;have HR:=Hi hr;have hC:=numC t.s hs;have her:(numV t.s).2 = 0∨(numV t.s).2 = 2∨(numV t.s).2 = 4:=numR_er _ _;generalize numV t.s=q at hC her ⊢;obtain ⟨n,er⟩:=q;dsimp only at hC her ⊢;have HC:=Hi hC;clear hp hr hC;rcases her with rfl | rfl | rfl
 all_goals
  go_enter Tryz.func186,Tryz.ntmps186;go_wp2_with fail
  refine HN.out.mono ?_;rintro e w1 ⟨rfl,hb1⟩;have HP1:=Hi (HP.out.below hb1);have HB1:=Hi hb1;clear hb1;go_wp2_with fail
  refine (HC.out _).mono ?_;rintro e w' ⟨rfl,rfl⟩;go_wp2_with fail
 ·refine (take w1 bp d t r HP1.out HR.out).mono ?_;rintro e w2 ⟨rfl,hp2,hu2⟩;have HP2:=Hi hp2;have HU2:=Hi ((below_UB (bp:=bp) HB1.out).trans hu2);clear hp2 hu2;go_wp2_with fail
  go_ret;exact ⟨rfl,HP2.out,HU2.out⟩
 ·refine (here w1 bp d t r 150 HP1.out).mono ?_;rintro e w2 ⟨rfl,hb2⟩;have HB2:=Hi (HB1.out.trans (hb2.mono HB1.out.size));clear hb2;go_wp2_with fail
  exact ⟨rfl,rfl,below_UB HB2.out⟩
 ·refine (here w1 bp d t r 100 HP1.out).mono ?_;rintro e w2 ⟨rfl,hb2⟩;have HB2:=Hi (HB1.out.trans (hb2.mono HB1.out.size));clear hb2;go_wp2_with fail
  exact ⟨rfl,rfl,below_UB HB2.out⟩
theorem nk_end(ps:List Bs){t u:Tk}{r:List Tk}(hk:t.k = 1)(hu:isS [44] u=false)(f:List Bs→List Tk→OO):namesK ps (t :: u :: r) f=f (ps ++ [t.s]) (u :: r):=by
 conv=>lhs;unfold namesK
 rw [if_pos hk,if_neg (by rw [hu];decide)]
theorem nk_go(ps:List Bs){t u:Tk}{r:List Tk}(hk:t.k = 1)(hu:isS [44] u=true)(f:List Bs→List Tk→OO):namesK ps (t :: u :: r) f=namesK (ps ++ [t.s]) r f:=by
 conv=>lhs;unfold namesK
 rw [if_pos hk,if_pos hu]
theorem nk_no(ps:List Bs){t:Tk}{r:List Tk}(hk:t.k≠1)(f:List Bs→List Tk→OO):namesK ps (t :: r) f=some (.bad t.at_ 100):=by
 cases r with
 | nil=>
  conv=>lhs;unfold namesK
  rw [if_neg hk];rfl
 | cons u r=>
  conv=>lhs;unfold namesK
  rw [if_neg hk];rfl
theorem infoSt:(Tryz.prog.info? 9).map (fun i=>(i.zero,i.size,i.bytes))=some (some (.string ⟨#[]⟩),1,16):=by kernel_rfl
def NmP(w:World)(bp d:Nat)(l:List Tk)(e:Ending)(w':World):Prop:=
 (∃ ps r g c,e = .returned (.slice (some ⟨g,0,none⟩) ps.length c)∧(∀ f,namesK [] l f=f ps r)∧PS w' bp r d∧Et r∧r <:+ l∧r.length < l.length∧Lies w' (some ⟨g,0,none⟩) (ps.map strV)∧w.heap.size≤g∧(ps.length≤4000∧ps.length≤c∧c≤maxLen)∧UB bp w w') ∨
 (∃ a,e=panV a 100∧(∀ f,namesK [] l f=some (.bad a 100))∧UB bp w w')
def NmI(w:World)(bp d:Nat)(l:List Tk)(ps:List Bs)(u:Tk)(r:List Tk)(g c:Nat)(W:World):Prop:=
 (∀ f,namesK [] l f=if isS [44] u=true then namesK ps r f else f ps (u :: r))∧PS W bp (u :: r) d∧Gt (u :: r)∧(u :: r) <:+ l∧(u :: r).length < l.length∧W.ownsRow w.heap.size 9 1 (.slice (some ⟨g,0,none⟩) ps.length c) ps.length (ps.map strV)∧ps.length+r.length≤4000∧UB bp w W
theorem et_ne{t:Tk}{r:List Tk}(h:Et (t :: r))(ht:t.k≠0):∃ u r',r=u :: r':=by
 have:=et_tail h ht;cases r with
 | nil=>exact absurd this et_nil
 | cons u r'=>exact ⟨u,r',rfl⟩
theorem own_str{w:World}{lo g c:Nat}{ps:List Bs}(h:w.ownsRow lo 9 1 (.slice (some ⟨g,0,none⟩) ps.length c) ps.length (ps.map strV)):Lies w (some ⟨g,0,none⟩) (ps.map strV)∧lo≤g:=
 ⟨fun j u hj=>⟨_,rfl,h.cells (g:=g) rfl j u hj⟩,(own_at h).1⟩
def lenAt(w:World)(bp:Nat):Nat:=match w.cell? ⟨bp,0,none⟩ with | some (.slice _ n _)=>n | _=>0
theorem PS.len{w:World}{bp:Nat}{l:List Tk}{d:Nat}(h:PS w bp l d):lenAt w bp=l.length:=by
 obtain ⟨b,o,c,_,h1,_⟩:=h;unfold lenAt;rw [show w.cell? ⟨bp,0,none⟩=some (.slice (some ⟨b,o,none⟩) l.length c) from h1.cell 0]
theorem nm_next{w wr w5 w8:World}{bp d g c g8 c8:Nat}{l r3:List Tk}{ps:List Bs}{u v v2:Tk}{X:Array Value}(HH:NmI w bp d l ps u (v :: v2 :: r3) g c wr)(hlt:bp < w.heap.size)(hon:isS [44] u=true)(hk:v.k = 1)(hgv:Gt (v :: v2 :: r3))(hU:UB bp wr w5)(hP:PS w5 bp (v2 :: r3) d)
  (hE:AppE w.heap.size 9 1 (w5.alloc (.cells X 9)) (.slice (some ⟨g,0,none⟩) ps.length c) ps.length 1 (ps.map strV ++ [.string ⟨v.s.toArray⟩]) g8 c8 w8):NmI w bp d l (ps ++ [v.s]) v2 r3 g8 c8 w8:=by
 obtain ⟨h1,h2,h3,h4,h5,h6,h7,h8⟩:=HH;have hg:=own_at h6;have hu8:Upd (fun b=>b=bp∨b=g) wr w8:=((hU.mono fun k hk=>Or.inl hk).alloc _).grown hE.grown fun k hk _=>by cases hk;exact .inr rfl
 have hu58:Upd (fun b=>b=g) w5 w8:=((Upd.refl _ w5).alloc _).grown hE.grown fun k hk _=>by cases hk;rfl
 refine ⟨fun f=>?_,hP.far hu58 fun b hb=>by omega,hgv.tail (by omega),(List.suffix_cons _ _).trans ((List.suffix_cons _ _).trans h4),by simp only [List.length_cons] at h5 ⊢;omega,?_,by simp only [List.length_append,List.length_cons,List.length_nil] at h7 ⊢;omega,?_⟩
 ·rw [h1 f,if_pos hon];by_cases hu:isS [44] v2=true
  ·rw [if_pos hu,nk_go _ hk hu]
  ·rw [if_neg hu,nk_end _ hk (by simpa using hu)]
 ·rw [List.length_append,List.map_append];exact hE.own
 ·exact ((h8.mono fun k hk=>Or.inl hk).trans hu8).fresh fun k hk hs=>by
   rcases hk with hk | hk
   ·exact hk
   ·subst hk;exact absurd hs (by omega)
theorem names(w:World)(bp d:Nat)(l:List Tk)(hp:PS w bp l d)(hg:Gt l) :
  Calls Tryz.prog 172 #[.pointer (some ⟨bp,0,none⟩)] w (NmP w bp d l):=by
 obtain ⟨t,r,rfl⟩:=hg.cons;have hlt:=hp.lt;obtain ⟨i0,hi,hz⟩:=Option.map_eq_some_iff.1 infoSt;have hz0:=congrArg (·.1) hz;have hz1:=congrArg (·.2.1) hz;have hz2:=congrArg (·.2.2) hz;have HI:=Hi hi;have HZ0:=Hi hz0;have HZ1:=Hi hz1;have HZ2:=Hi hz2;clear hi hz hz0 hz1 hz2;by_cases hk:t.k = 1
 ·obtain ⟨u,r,rfl⟩:=et_ne hg.et (by omega);have HN:=Hi (name_yes w bp d t (u :: r) hp hk (by simp));have HG:=Hi (hg.tail (by omega));have HF:Hid (∀ f,namesK [] (t :: u :: r) f=if isS [44] u=true then namesK [t.s] r f else f [t.s] (u :: r)):=Hi fun f=>by
   by_cases hu:isS [44] u=true
   ·rw [if_pos hu,nk_go _ hk hu];rfl
   ·rw [if_neg hu,nk_end _ hk (by simpa using hu)];rfl
  have hfw:=hg.few;have HFW:Hid (r.length+2≤4000):=Hi (by simpa using hfw);clear hp hg hk hfw;go_enter Tryz.func172,Tryz.ntmps172;go_wp2_with fail
  refine HN.out.mono ?_;rintro e w1 ⟨rfl,hp1,hu1⟩;have HJ:Hid (NmI w bp d (t :: u :: r) [t.s] u r w1.heap.size 1 (w1.alloc (.cells #[.string ⟨t.s.toArray⟩] 9))):=Hi ⟨HF.out,hp1.below ((Below.refl _ _).alloc (Nat.le_refl _) _),HG.out,List.suffix_cons _ _,by simp,
   own_full w1 hu1.size 9 1 1 [.string ⟨t.s.toArray⟩] rfl (by decide),by have:=HFW.out;simp;omega,(hu1.alloc _)⟩
  clear hp1 hu1 HF HN HG HFW;go_wp2_with fail
  go_loopw [3] (fun vl wr=>∃ ps u' r' g c,vl = .slice (some ⟨g,0,none⟩) ps.length c∧Hid (NmI w bp d (t :: u :: r) ps u' r' g c wr)) (fun _ wr=>lenAt wr bp)
  case atStart=>exact ⟨[t.s],u,r,_,_,rfl,HJ⟩
  case round=>
   clear HJ;obtain ⟨ps,u',r',g,c,rfl,HH⟩:=hrel;have HIS:=Hi (is_ wr bp d u' r' [44] HH.out.2.1);by_cases hc:(u'.s==[44])=true
   ·rw [hc] at HIS;have hu':u'.k≠0:=by
     have:=okt_lit HH.out.2.2.1.hd (by rw [eq_of_beq hc];decide);omega
    obtain ⟨v,r'',rfl⟩:=et_ne HH.out.2.2.1.et hu';have hon:isS [44] u'=true:=by rw [isS_eq HH.out.2.2.1.hd (by decide)];exact hc
    go_wp2_with fail
    refine HIS.out.mono ?_;rintro e w3 ⟨rfl,hb3⟩;have HT:=Hi (take w3 bp d u' (v :: r'') (HH.out.2.1.below hb3) (by simp));have HB3:=Hi hb3;clear hb3;go_wp2_with fail
    refine HT.out.mono ?_;rintro e w4 ⟨rfl,hp4,hu4⟩;have hu4':UB bp wr w4:=(below_UB HB3.out).trans hu4;have hgv:Gt (v :: r''):=HH.out.2.2.1.tail hu';by_cases hk:v.k = 1
    ·obtain ⟨v2,r3,rfl⟩:=et_ne hgv.et (by omega);have HN:=Hi (name_yes w4 bp d v (v2 :: r3) hp4 hk (by simp));have HU4:=Hi hu4';clear hp4 hu4 hu4' hc;go_wp2_with fail
     refine HN.out.mono ?_;rintro e w5 ⟨rfl,hp5,hu5⟩;have hu5':UB bp wr w5:=HU4.out.trans hu5;have HU5:=Hi hu5';have how:w5.ownsRow w.heap.size 9 1 (.slice (some ⟨g,0,none⟩) ps.length c) ps.length (ps.map strV):=own_upd3 HH.out.2.2.2.2.2.1 hu5' (by have:=(own_at HH.out.2.2.2.2.2.1).1;omega);have HOA:=Hi (World.ownsRow.alloc how (.cells #[.string ⟨v.s.toArray⟩] 9));have HLI:=Hi (lies_full w5 9 [.string ⟨v.s.toArray⟩]);have hsz:w.heap.size≤w5.heap.size:=Nat.le_trans HH.out.2.2.2.2.2.2.2.size hu5'.size;have HBS:=Hi (show w.heap.size≤(w5.alloc (.cells #[.string ⟨v.s.toArray⟩] 9)).heap.size by simp;omega);have hfew:ps.length+(u' :: v :: v2 :: r3).length≤4001:=by have:=HH.out.2.2.2.2.2.2.1;simp at this ⊢;omega
     have HP5:=Hi hp5;simp only [List.length_cons] at hfew;clear hp5 hu5 hu5' how hsz;go_wp2_with (at_builtin;refine wpList_where rfl _ _ 24 rfl w.heap.size 9 i0 (.string ⟨#[]⟩) 1 16 Tryz.underlying24 HI.out HZ0.out HZ1.out HZ2.out rfl (by decide) _ ps.length _ rfl HOA.out ⟨w5.heap.size,0,none⟩ 1 1 [.string ⟨v.s.toArray⟩] rfl rfl HLI.out (by simp [Value.oneCell']) (by unfold maxLen;omega) (by omega) HBS.out (by decide) ?_;intro g8 c8 w8 hE;have HE:=Hi hE;clear hE)
     go_roundw
     case rel=>exact ⟨ps ++ [v.s],v2,r3,g8,c8,by rw [List.length_append];rfl,Hi (nm_next HH.out hlt hon hk hgv HU5.out HP5.out HE.out)⟩
     case measure=>
      have e8:=PS.len (nm_next HH.out hlt hon hk hgv HU5.out HP5.out HE.out).2.1;have er:=PS.len HH.out.2.1;rw [e8,er];simp
    ·have HN:=Hi (name_no w4 bp d v r'' hp4 hk);have HU4:=Hi hu4';clear hp4 hu4 hu4' hc;go_wp2_with fail
     refine HN.out.mono ?_;rintro e w5 ⟨rfl,hu5⟩;have HU5:=Hi (HU4.out.trans hu5);clear hu5;go_wp2_with fail
     refine ⟨rfl,.inr ⟨_,rfl,fun f=>?_,HH.out.2.2.2.2.2.2.2.trans HU5.out⟩⟩;rw [HH.out.1 f,if_pos hon,nk_no _ hk]
   ·have hc':(u'.s==[44])=false:=by simpa using hc
    rw [hc'] at HIS;have hon:isS [44] u'=false:=by rw [isS_eq HH.out.2.2.1.hd (by decide)];exact hc'
    clear hc hc';go_wp2_with fail
    refine HIS.out.mono ?_;rintro e w3 ⟨rfl,hb3⟩;have HB3:=Hi hb3;clear hb3;go_wp2_with fail
    go_ret;obtain ⟨k1,k2,k3,k4,k5,k6,k7,k8⟩:=HH.out;have hs:=own_str k6;refine .inl ⟨ps,u' :: r',g,c,rfl,fun f=>?_,k2.below HB3.out,k3.et,k4,k5,hs.1.below HB3.out,hs.2,⟨by omega,(own_cap k6 (by omega)).le,(own_cap k6 (by omega)).cap⟩,k8.trans (below_UB HB3.out)⟩;rw [k1 f,hon];rfl
 ·have HN:=Hi (name_no w bp d t r hp hk);clear hp hg;go_enter Tryz.func172,Tryz.ntmps172;go_wp2_with fail
  refine HN.out.mono ?_;rintro e w1 ⟨rfl,hu1⟩;have HU1:=Hi hu1;clear hu1;go_wp2_with fail
  exact ⟨rfl,.inr ⟨_,rfl,fun f=>nk_no _ hk f,HU1.out⟩⟩
end
section
attribute [local go_sem] fTk0 fTk1 fTk2
def OutP(w:World)(bp d:Nat)(l:List Tk)(R:Out→Prop)(e:Ending)(w':World):Prop:=
 (∃ k a s n A la cA B lb cB x r,e = .returned (.agg #[.int .i64 (k:Nat),.string ⟨(s:Bs).toArray⟩,.int .u32 (n:Nat),.int .i64 (a:Nat),.slice A la cA,.slice B lb cB])∧TIn (fun b=>w.heap.size≤b) w' x (ndC k a s n A la cA B lb cB)∧R (.ok [x] r) ∧
  PS w' bp r d∧Gt r∧r.length < l.length∧UB bp w w') ∨
 (∃ a er,e=panV a er∧R (.bad a er)∧UB bp w w')
theorem OutP.imp{w:World}{bp d:Nat}{l:List Tk}{R R':Out→Prop}{e:Ending}{w':World}(h:OutP w bp d l R e w')(hR:∀ o,R o→R' o):OutP w bp d l R' e w':=by
 rcases h with ⟨k,a,s,n,A,la,cA,B,lb,cB,x,r,h1,h2,h3,h4⟩ | ⟨a,er,h1,h2,h3⟩
 ·exact .inl ⟨k,a,s,n,A,la,cA,B,lb,cB,x,r,h1,h2,hR _ h3,h4⟩
 ·exact .inr ⟨a,er,h1,hR _ h2,h3⟩
theorem TIn.up{lo lo':Nat}{w:World}{x:Tr}{c:List Value}(h:TIn (fun b=>lo≤b) w x c)(hl:lo'≤lo):TIn (fun b=>lo'≤b) w x c:=h.mono fun b hb _=>Nat.le_trans hl hb
theorem TIn.far{X:Nat→Prop}{lo:Nat}{w w':World}{x:Tr}{c:List Value}(h:TIn (fun b=>lo≤b) w x c)(hu:Upd X w w')(hX:∀ b,X b→b < lo):TIn (fun b=>lo≤b) w' x c:=h.upd hu fun b hb hx=>by have:=hX b hx;omega
theorem out_ok{w w1:World}{bp d lo:Nat}{l r:List Tk}{R:Out→Prop}{k a n la cA lb cB:Nat}{s:Bs}{A B:Option Addr}{x:Tr}(hlt:bp < w.heap.size)(hg:w.heap.size < lo)(hT:TIn (fun b=>lo≤b) w1 x (ndC k a s n A la cA B lb cB))(hR:R (.ok [x] r))(hP:PS w1 bp r d)(hG:Gt r)(hr:r.length < l.length)(hU:UB bp w w1) :
  OutP w bp d l R (.returned (.agg #[.int .i64 (k:Int),.string ⟨s.toArray⟩,.int .u32 (n:Int),.int .i64 (a:Int),.slice A la cA,.slice B lb cB])) (put6 w1 w.heap.size (.int .i64 (k:Int)) (.string ⟨s.toArray⟩) (.int .u32 (n:Int)) (.int .i64 (a:Int)) (.slice A la cA) (.slice B lb cB)):=by
 have hu:Upd (fun b=>b=w.heap.size) w1 (put6 w1 w.heap.size (.int .i64 (k:Int)) (.string ⟨s.toArray⟩) (.int .u32 (n:Int)) (.int .i64 (a:Int)) (.slice A la cA) (.slice B lb cB)):=put6_upd (X:=fun b=>b=w.heap.size) (Upd.refl _ _) (fun _=>rfl) _ _ _ _ _ _;refine .inl ⟨k,a,s,n,A,la,cA,B,lb,cB,x,r,rfl,?_,hR,hP.far hu fun b hb=>by omega,hG,hr,?_⟩
 ·exact (TIn.far hT hu fun b hb=>by omega).up (Nat.le_of_lt hg)
 ·exact put6_upd hU (fun h=>absurd h (Nat.lt_irrefl _)) _ _ _ _ _ _
theorem expr(w:World)(bp d:Nat)(l:List Tk)(hp:PS w bp l d)
  (hS:∀ w0,PS w0 bp l d→Calls Tryz.prog 103 #[.pointer (some ⟨bp,0,none⟩),.int .i64 1] w0 (OutP w0 bp d l (Rd numV (.lev 0) d l))) :
  Calls Tryz.prog 69 #[.pointer (some ⟨bp,0,none⟩)] w (OutP w bp d l (Rd numV (.lev 0) d l)):=by
 obtain ⟨w0,hw0⟩:∃ w0,w.alloc (.cells #[.int .i64 0,.string ⟨#[]⟩,.int .u32 0,.int .i64 0,.slice none 0 0,.slice none 0 0] 26)=w0:=⟨_,rfl⟩;have hb0:Below w.heap.size w w0:=by rw [←hw0];exact (Below.refl _ _).alloc (Nat.le_refl _) _
 have hB:Blk w0 w.heap.size 26 #[.int .i64 0,.string ⟨#[]⟩,.int .u32 0,.int .i64 0,.slice none 0 0,.slice none 0 0]:=by rw [←hw0];exact Blk.new _ _ _
 have hlt:=hp.lt;have HS:=Hi (hS w0 (hp.below hb0));have HB0:=Hi hb0;have HB:=Hi hB;have HW:=Hi hw0;clear hb0 hp hw0 hB hS;go_enter Tryz.func69,Tryz.ntmps69;go_wp2_with fail
 rw [HW.out];refine HS.out.mono ?_;rintro e w1 (⟨k,a,s,n,A,la,cA,B,lb,cB,x,r,rfl,hT,hR,hP,hG,hr,hU⟩ | ⟨a,er,rfl,hR,hU⟩)
 ·have h1:Blk w1 w.heap.size 26 #[.int .i64 0,.string ⟨#[]⟩,.int .u32 0,.int .i64 0,.slice none 0 0,.slice none 0 0]:=HB.out.upd hU (by omega);obtain ⟨⟨e0,e1,e2,e3,e4,e5⟩,z0,z1,z2,z3,z4,z5⟩:=Blk.c6 h1;have H1:=Hi h1;have HT:=Hi hT;have HR:=Hi hR;have HP:=Hi hP;have HG:=Hi hG;have HU:=Hi hU;clear h1 hT hR hP hG hU;go_wp2_with fail
  exact bodyPost_ret (resNd rfl rfl (Blk.put6 H1.out _ _ _ _ _ _) rfl) rfl (out_ok hlt HB.out.lt HT.out HR.out HP.out HG.out hr ((below_UB HB0.out).trans HU.out))
 ·have HR:=Hi hR;have HU:=Hi hU;clear hR hU;go_wp2_with fail
  exact ⟨rfl,.inr ⟨a,er,rfl,HR.out,(below_UB HB0.out).trans HU.out⟩⟩
theorem OutP.below{w:World}{bp d:Nat}{l:List Tk}{R:Out→Prop}{e:Ending}{w1 w2:World}(h:OutP w bp d l R e w1)(hb:Below w1.heap.size w1 w2):OutP w bp d l R e w2:=by
 rcases h with ⟨k,a,s,n,A,la,cA,B,lb,cB,x,r,h1,h2,h3,h4,h5,h6,h7⟩ | ⟨a,er,h1,h2,h3⟩
 ·exact .inl ⟨k,a,s,n,A,la,cA,B,lb,cB,x,r,h1,h2.upd (Upd.of_below hb fun _=>False) (fun _ _ h=>h),h3,h4.below hb,h5,h6,h7.trans (below_UB hb)⟩
 ·exact .inr ⟨a,er,h1,h2,h3.trans (below_UB hb)⟩
theorem PS.dc{w:World}{bp d:Nat}{l:List Tk}(h:PS w bp l d):w.cell? ⟨bp,1,none⟩=some (.int .i64 (d:Int))∧w.frozen? ⟨bp,1,none⟩=false:=by
 obtain ⟨b,o,c,_,h1,_⟩:=h;exact ⟨h1.cell 1,h1.frozen 1⟩
theorem within_deep(F:Nat)(w:World)(bp:Nat)(t:Tk)(r:List Tk)(hp:PS w bp (t :: r) 60) :
  Calls Tryz.prog 160 #[.pointer (some ⟨bp,0,none⟩),.func (.func F) #[.pointer (some ⟨bp,0,none⟩)] #[]] w fun e w'=>e=panV t.at_ 150∧UB bp w w':=by
 obtain ⟨w0,hw0⟩:∃ w0,w.alloc (.cells #[.int .i64 0,.string ⟨#[]⟩,.int .u32 0,.int .i64 0,.slice none 0 0,.slice none 0 0] 26)=w0:=⟨_,rfl⟩;have hb0:Below w.heap.size w w0:=by rw [←hw0];exact (Below.refl _ _).alloc (Nat.le_refl _) _
 have HH:=Hi (here w0 bp 60 t r 150 (hp.below hb0));obtain ⟨f1,f3⟩:=hp.dc;have hlt:=hp.lt;have HB0:=Hi hb0;have HW:=Hi hw0;clear hb0 hp hw0;go_enter Tryz.func160,Tryz.ntmps160;go_wp2_with fail
 rw [HW.out];refine HH.out.mono ?_;rintro e w1 ⟨rfl,hb1⟩;have HB1:=Hi (HB0.out.trans (hb1.mono HB0.out.size));clear hb1;go_wp2_with fail
 exact ⟨rfl,rfl,below_UB HB1.out⟩
theorem within_expr(R:Out→Prop)(w:World)(bp d:Nat)(l:List Tk)(hd:d < 60)(hp:PS w bp l d)
  (hS:∀ w0,PS w0 bp l (d+1)→Calls Tryz.prog 69 #[.pointer (some ⟨bp,0,none⟩)] w0 (OutP w0 bp (d+1) l R)) :
  Calls Tryz.prog 160 #[.pointer (some ⟨bp,0,none⟩),.func (.func 69) #[.pointer (some ⟨bp,0,none⟩)] #[]] w (OutP w bp d l R):=by
 obtain ⟨f1,f3⟩:=hp.dc;have hlt:=hp.lt;have hne:((d:Int)==60)=false:=by simp;omega
 obtain ⟨w0,hw0⟩:∃ w0,(w.setCell ⟨bp,1,none⟩ (.int .i64 ((d:Int)+1))).alloc (.cells #[.int .i64 0,.string ⟨#[]⟩,.int .u32 0,.int .i64 0,.slice none 0 0,.slice none 0 0] 26)=w0:=⟨_,rfl⟩;have hsz:(w.setCell ⟨bp,1,none⟩ (.int .i64 ((d:Int)+1))).heap.size=w.heap.size:=by simp
 have hp0:PS w0 bp l (d+1):=by
  have h:=(hp.deep (d+1)).below ((Below.refl _ _).alloc (Nat.le_refl _) (.cells #[.int .i64 0,.string ⟨#[]⟩,.int .u32 0,.int .i64 0,.slice none 0 0,.slice none 0 0] 26));rw [←hw0];exact_mod_cast h
 have hB:Blk w0 w.heap.size 26 #[.int .i64 0,.string ⟨#[]⟩,.int .u32 0,.int .i64 0,.slice none 0 0,.slice none 0 0]:=by rw [←hw0,←hsz];exact Blk.new _ _ _
 have hU0:UB bp w w0:=by rw [←hw0];exact ((Upd.refl (fun b=>b=bp) w).setCell (fun _=>rfl) _).alloc _
 have HS:=Hi (hS w0 hp0);have HB:=Hi hB;have HW:=Hi hw0;have HU0:=Hi hU0;clear hp hp0 hB hU0 hw0 hS hsz;go_enter Tryz.func160,Tryz.ntmps160;go_wp2_with fail
 rw [HW.out];refine HS.out.mono ?_;rintro e w1 (⟨k,a,s,n,A,la,cA,B,lb,cB,x,r,rfl,hT,hR,hP,hG,hr,hU⟩ | ⟨a,er,rfl,hR,hU⟩)
 ·obtain ⟨g1,g3⟩:=hP.dc;have h1:Blk w1 w.heap.size 26 #[.int .i64 0,.string ⟨#[]⟩,.int .u32 0,.int .i64 0,.slice none 0 0,.slice none 0 0]:=HB.out.upd hU (by omega);obtain ⟨⟨e0,e1,e2,e3,e4,e5⟩,z0,z1,z2,z3,z4,z5⟩:=Blk.c6 h1;have hlt1:=hP.lt;have hlg:=h1.lt;have hgb:w.heap.size≠bp:=by omega
  have H1:=Hi h1;have HT:=Hi hT;have HR:=Hi hR;have HP:=Hi hP;have HG:=Hi hG;have HU:=Hi hU;clear h1 hT hR hP hG hU;go_wp2_with fail
  refine bodyPost_ret (resNd rfl rfl ((Blk.put6 (H1.out.far hgb _) _ _ _ _ _ _).alloc _) rfl) rfl ?_;have hs1:UB bp w1 (w1.setCell ⟨bp,1,none⟩ (.int .i64 (d:Int))):=(Upd.refl (fun b=>b=bp) w1).setCell (fun _=>rfl) _;exact (out_ok hlt HB.out.lt (TIn.far HT.out hs1 fun b hb=>by have:=HB.out.lt;omega) HR.out (HP.out.deep d) HG.out hr ((HU0.out.trans HU.out).trans hs1)).below ((Below.refl _ _).alloc (Nat.le_refl _) _)
 ·have HR:=Hi hR;have HU:=Hi (HU0.out.trans hU);clear hR hU;go_wp2_with fail
  exact ⟨rfl,.inr ⟨a,er,rfl,HR.out,HU.out⟩⟩
theorem within_unary(R:Out→Prop)(w:World)(bp d:Nat)(l:List Tk)(hd:d < 60)(hp:PS w bp l d)
  (hS:∀ w0,PS w0 bp l (d+1)→Calls Tryz.prog 127 #[.pointer (some ⟨bp,0,none⟩)] w0 (OutP w0 bp (d+1) l R)) :
  Calls Tryz.prog 160 #[.pointer (some ⟨bp,0,none⟩),.func (.func 127) #[.pointer (some ⟨bp,0,none⟩)] #[]] w (OutP w bp d l R):=by
 obtain ⟨f1,f3⟩:=hp.dc;have hlt:=hp.lt;have hne:((d:Int)==60)=false:=by simp;omega
 obtain ⟨w0,hw0⟩:∃ w0,(w.setCell ⟨bp,1,none⟩ (.int .i64 ((d:Int)+1))).alloc (.cells #[.int .i64 0,.string ⟨#[]⟩,.int .u32 0,.int .i64 0,.slice none 0 0,.slice none 0 0] 26)=w0:=⟨_,rfl⟩;have hsz:(w.setCell ⟨bp,1,none⟩ (.int .i64 ((d:Int)+1))).heap.size=w.heap.size:=by simp
 have hp0:PS w0 bp l (d+1):=by
  have h:=(hp.deep (d+1)).below ((Below.refl _ _).alloc (Nat.le_refl _) (.cells #[.int .i64 0,.string ⟨#[]⟩,.int .u32 0,.int .i64 0,.slice none 0 0,.slice none 0 0] 26));rw [←hw0];exact_mod_cast h
 have hB:Blk w0 w.heap.size 26 #[.int .i64 0,.string ⟨#[]⟩,.int .u32 0,.int .i64 0,.slice none 0 0,.slice none 0 0]:=by rw [←hw0,←hsz];exact Blk.new _ _ _
 have hU0:UB bp w w0:=by rw [←hw0];exact ((Upd.refl (fun b=>b=bp) w).setCell (fun _=>rfl) _).alloc _
 have HS:=Hi (hS w0 hp0);have HB:=Hi hB;have HW:=Hi hw0;have HU0:=Hi hU0;clear hp hp0 hB hU0 hw0 hS hsz;go_enter Tryz.func160,Tryz.ntmps160;go_wp2_with fail
 rw [HW.out];refine HS.out.mono ?_;rintro e w1 (⟨k,a,s,n,A,la,cA,B,lb,cB,x,r,rfl,hT,hR,hP,hG,hr,hU⟩ | ⟨a,er,rfl,hR,hU⟩)
 ·obtain ⟨g1,g3⟩:=hP.dc;have h1:Blk w1 w.heap.size 26 #[.int .i64 0,.string ⟨#[]⟩,.int .u32 0,.int .i64 0,.slice none 0 0,.slice none 0 0]:=HB.out.upd hU (by omega);obtain ⟨⟨e0,e1,e2,e3,e4,e5⟩,z0,z1,z2,z3,z4,z5⟩:=Blk.c6 h1;have hlt1:=hP.lt;have hlg:=h1.lt;have hgb:w.heap.size≠bp:=by omega
  have H1:=Hi h1;have HT:=Hi hT;have HR:=Hi hR;have HP:=Hi hP;have HG:=Hi hG;have HU:=Hi hU;clear h1 hT hR hP hG hU;go_wp2_with fail
  refine bodyPost_ret (resNd rfl rfl ((Blk.put6 (H1.out.far hgb _) _ _ _ _ _ _).alloc _) rfl) rfl ?_;have hs1:UB bp w1 (w1.setCell ⟨bp,1,none⟩ (.int .i64 (d:Int))):=(Upd.refl (fun b=>b=bp) w1).setCell (fun _=>rfl) _;exact (out_ok hlt HB.out.lt (TIn.far HT.out hs1 fun b hb=>by have:=HB.out.lt;omega) HR.out (HP.out.deep d) HG.out hr ((HU0.out.trans HU.out).trans hs1)).below ((Below.refl _ _).alloc (Nat.le_refl _) _)
 ·have HR:=Hi hR;have HU:=Hi (HU0.out.trans hU);clear hR hU;go_wp2_with fail
  exact ⟨rfl,.inr ⟨a,er,rfl,HR.out,HU.out⟩⟩
theorem within_inner(R:Out→Prop)(w:World)(bp d:Nat)(l:List Tk)(hd:d < 60)(hp:PS w bp l d)
  (hS:∀ w0,PS w0 bp l (d+1)→Calls Tryz.prog 154 #[.pointer (some ⟨bp,0,none⟩)] w0 (OutP w0 bp (d+1) l R)) :
  Calls Tryz.prog 160 #[.pointer (some ⟨bp,0,none⟩),.func (.func 154) #[.pointer (some ⟨bp,0,none⟩)] #[]] w (OutP w bp d l R):=by
 obtain ⟨f1,f3⟩:=hp.dc;have hlt:=hp.lt;have hne:((d:Int)==60)=false:=by simp;omega
 obtain ⟨w0,hw0⟩:∃ w0,(w.setCell ⟨bp,1,none⟩ (.int .i64 ((d:Int)+1))).alloc (.cells #[.int .i64 0,.string ⟨#[]⟩,.int .u32 0,.int .i64 0,.slice none 0 0,.slice none 0 0] 26)=w0:=⟨_,rfl⟩;have hsz:(w.setCell ⟨bp,1,none⟩ (.int .i64 ((d:Int)+1))).heap.size=w.heap.size:=by simp
 have hp0:PS w0 bp l (d+1):=by
  have h:=(hp.deep (d+1)).below ((Below.refl _ _).alloc (Nat.le_refl _) (.cells #[.int .i64 0,.string ⟨#[]⟩,.int .u32 0,.int .i64 0,.slice none 0 0,.slice none 0 0] 26));rw [←hw0];exact_mod_cast h
 have hB:Blk w0 w.heap.size 26 #[.int .i64 0,.string ⟨#[]⟩,.int .u32 0,.int .i64 0,.slice none 0 0,.slice none 0 0]:=by rw [←hw0,←hsz];exact Blk.new _ _ _
 have hU0:UB bp w w0:=by rw [←hw0];exact ((Upd.refl (fun b=>b=bp) w).setCell (fun _=>rfl) _).alloc _
 have HS:=Hi (hS w0 hp0);have HB:=Hi hB;have HW:=Hi hw0;have HU0:=Hi hU0;clear hp hp0 hB hU0 hw0 hS hsz;go_enter Tryz.func160,Tryz.ntmps160;go_wp2_with fail
 rw [HW.out];refine HS.out.mono ?_;rintro e w1 (⟨k,a,s,n,A,la,cA,B,lb,cB,x,r,rfl,hT,hR,hP,hG,hr,hU⟩ | ⟨a,er,rfl,hR,hU⟩)
 ·obtain ⟨g1,g3⟩:=hP.dc;have h1:Blk w1 w.heap.size 26 #[.int .i64 0,.string ⟨#[]⟩,.int .u32 0,.int .i64 0,.slice none 0 0,.slice none 0 0]:=HB.out.upd hU (by omega);obtain ⟨⟨e0,e1,e2,e3,e4,e5⟩,z0,z1,z2,z3,z4,z5⟩:=Blk.c6 h1;have hlt1:=hP.lt;have hlg:=h1.lt;have hgb:w.heap.size≠bp:=by omega
  have H1:=Hi h1;have HT:=Hi hT;have HR:=Hi hR;have HP:=Hi hP;have HG:=Hi hG;have HU:=Hi hU;clear h1 hT hR hP hG hU;go_wp2_with fail
  refine bodyPost_ret (resNd rfl rfl ((Blk.put6 (H1.out.far hgb _) _ _ _ _ _ _).alloc _) rfl) rfl ?_;have hs1:UB bp w1 (w1.setCell ⟨bp,1,none⟩ (.int .i64 (d:Int))):=(Upd.refl (fun b=>b=bp) w1).setCell (fun _=>rfl) _;exact (out_ok hlt HB.out.lt (TIn.far HT.out hs1 fun b hb=>by have:=HB.out.lt;omega) HR.out (HP.out.deep d) HG.out hr ((HU0.out.trans HU.out).trans hs1)).below ((Below.refl _ _).alloc (Nat.le_refl _) _)
 ·have HR:=Hi hR;have HU:=Hi (HU0.out.trans hU);clear hR hU;go_wp2_with fail
  exact ⟨rfl,.inr ⟨a,er,rfl,HR.out,HU.out⟩⟩
end
section
attribute [local go_sem] fTk0 fTk1 fTk2
def ExC(n:Nat):Prop:=∀ (w:World) (bp d:Nat) (l:List Tk),l.length≤n→d≤60→PS w bp l d→Gt l →
 Calls Tryz.prog 69 #[.pointer (some ⟨bp,0,none⟩)] w (OutP w bp d l (Rd numV (.lev 0) d l))
theorem within_e{n:Nat}(H:ExC n)(w:World)(bp d:Nat)(l:List Tk)(hn:l.length≤n)(hd:d≤60)(hp:PS w bp l d)(hg:Gt l) :
  Calls Tryz.prog 160 #[.pointer (some ⟨bp,0,none⟩),.func (.func 69) #[.pointer (some ⟨bp,0,none⟩)] #[]] w (OutP w bp d l (Rd numV (.lev 0) (d+1) l)):=by
 rcases Nat.lt_or_ge d 60 with h | h
 ·exact within_expr _ w bp d l h hp fun w0 hp0=>H w0 bp (d+1) l hn (by omega) hp0 hg
 ·obtain rfl:d = 60:=by omega
  obtain ⟨t,r,rfl⟩:=hg.cons;exact (within_deep _ w bp t r hp).mono fun e w' h=>.inr ⟨_,_,h.1,r_deep0 (by omega),h.2⟩
theorem ar_ok{num:Bs→Nat×Nat}{d a:Nat}{s:Bs}{r r1 r3:List Tk}{x:Tr}{xs:List Tr}{v:Tk}(h:Rd num (.lev 0) (d+1) r (.ok [x] r1))(h2:Rd num (.args [x]) (d+1) r1 (.ok xs (v :: r3)))(hv:isS [41] v=true):Ev (fun f=>ArK num f d a s r) (.ok [.mk 5 a s 0 [] xs] r3):=
 ev_bnd (K:=fun f xs r''=>bnd (pF num f (.args xs) (d+1) r'') fun ys r3=>must [41] r3 fun r4=>some (.ok [.mk 5 a s 0 [] ys] r4)) h
  (ev_bnd (K:=fun _ ys r3=>must [41] r3 fun r4=>some (.ok [.mk 5 a s 0 [] ys] r4)) h2 (ev_eq (ev_now _) fun _=>must_y hv _))
theorem ar_end{num:Bs→Nat×Nat}{d a:Nat}{s:Bs}{r r1 r3:List Tk}{x:Tr}{xs:List Tr}{v:Tk}(h:Rd num (.lev 0) (d+1) r (.ok [x] r1))(h2:Rd num (.args [x]) (d+1) r1 (.ok xs (v :: r3)))(hv:isS [41] v=false):Ev (fun f=>ArK num f d a s r) (.bad v.at_ 100):=
 ev_bnd (K:=fun f xs r''=>bnd (pF num f (.args xs) (d+1) r'') fun ys r3=>must [41] r3 fun r4=>some (.ok [.mk 5 a s 0 [] ys] r4)) h
  (ev_bnd (K:=fun _ ys r3=>must [41] r3 fun r4=>some (.ok [.mk 5 a s 0 [] ys] r4)) h2 (ev_eq (ev_now _) fun _=>must_n hv _))
theorem ar_bad1{num:Bs→Nat×Nat}{d a p e:Nat}{s:Bs}{r r1:List Tk}{x:Tr}(h:Rd num (.lev 0) (d+1) r (.ok [x] r1))(h2:Rd num (.args [x]) (d+1) r1 (.bad p e)):Ev (fun f=>ArK num f d a s r) (.bad p e):=
 ev_bnd (K:=fun f xs r''=>bnd (pF num f (.args xs) (d+1) r'') fun ys r3=>must [41] r3 fun r4=>some (.ok [.mk 5 a s 0 [] ys] r4)) h
  (ev_bad (K:=fun _ ys r3=>must [41] r3 fun r4=>some (.ok [.mk 5 a s 0 [] ys] r4)) h2)
theorem ar_bad{num:Bs→Nat×Nat}{d a p e:Nat}{s:Bs}{r:List Tk}(h:Rd num (.lev 0) (d+1) r (.bad p e)):Ev (fun f=>ArK num f d a s r) (.bad p e):=
 ev_bad (K:=fun f xs r''=>bnd (pF num f (.args xs) (d+1) r'') fun ys r3=>must [41] r3 fun r4=>some (.ok [.mk 5 a s 0 [] ys] r4)) h
def ArP(w:World)(bp d:Nat)(l:List Tk)(q:List Tk)(e:Ending)(w':World):Prop:=
 (∃ g c xs r,e = .returned (.slice (some ⟨g,0,none⟩) xs.length c)∧ArrT 26 w.heap.size w' g c xs∧xs.length≤4000∧(∀ a s,Ev (fun f=>ArK numV f d a s q) (.ok [.mk 5 a s 0 [] xs] r))∧PS w' bp r d∧Gt r∧r.length < l.length∧UB bp w w') ∨
 (∃ a er,e=panV a er∧(∀ p s,Ev (fun f=>ArK numV f d p s q) (.bad a er))∧UB bp w w')
structure ArI(w:World)(bp d:Nat)(q:List Tk)(x0:Tr)(r1:List Tk)(xs:List Tr)(l:List Tk)(g c:Nat)(W:World):Prop where
 rd:∀ o,Rd numV (.args xs) (d+1) l o→Rd numV (.args [x0]) (d+1) r1 o
 ps:PS W bp l d
 gt:Gt l
 lt:l.length < q.length
 arr:ArrT 26 w.heap.size W g c xs
 few:xs.length+l.length≤4000
 ub:UB bp w W
theorem infoNd:(Tryz.prog.info? 26).map (fun i=>(i.zero,i.size,i.bytes))=some (some (.agg #[.int .i64 0,.string ⟨#[]⟩,.int .u32 0,.int .i64 0,.slice none 0 0,.slice none 0 0]),6,88):=by kernel_rfl
theorem arguments{n:Nat}(H:ExC n)(w:World)(bp d:Nat)(u:Tk)(q:List Tk)(hn:q.length≤n)(hd:d≤60)(hp:PS w bp (u :: q) d)(hg:Gt (u :: q))(hu:(u.s==[40])=true) :
  Calls Tryz.prog 187 #[.pointer (some ⟨bp,0,none⟩)] w (ArP w bp d (u :: q) q):=by
 have hlt:=hp.lt;obtain ⟨i0,hi,hz⟩:=Option.map_eq_some_iff.1 infoNd;have hz0:=congrArg (·.1) hz;have hz1:=congrArg (·.2.1) hz;have hz2:=congrArg (·.2.2) hz;have HI:=Hi hi;have HZ0:=Hi hz0;have HZ1:=Hi hz1;have HZ2:=Hi hz2;clear hi hz hz0 hz1 hz2;have hk:u.k≠0:=by
  have:=okt_lit hg.hd (by rw [eq_of_beq hu];decide);omega
 have hgq:=hg.tail hk;obtain ⟨t0,q0,hq0⟩:=hgq.cons;have HM:=Hi (must_yes w bp d u q [40] hp hu (by rw [hq0];simp));have HGQ:=Hi hgq;clear hp hg hu hk hgq hq0;go_enter Tryz.func187,Tryz.ntmps187;go_wp2_with fail
 refine HM.out.mono ?_;rintro e w1 ⟨rfl,hp1,hu1⟩;have HE:=Hi (within_e H w1 bp d q hn hd hp1 HGQ.out);have HU1:=Hi hu1;clear hp1 hu1;go_wp2_with fail
 refine HE.out.mono ?_;rintro e w2 (⟨k,a,s,m,A,la,cA,B,lb,cB,x,r,rfl,hT,hR,hP,hG,hr,hU⟩ | ⟨a,er,rfl,hR,hU⟩);rotate_left
 ·have HR:=Hi hR;have HU:=Hi (HU1.out.trans hU);clear hR hU;go_wp2_with fail
  exact ⟨rfl,.inr ⟨a,er,rfl,fun p s=>ar_bad HR.out,HU.out⟩⟩
 have hJ:ArI w bp d (u :: q) x r [x] r w2.heap.size 1 (w2.alloc (.cells #[.int .i64 (k:Int),.string ⟨s.toArray⟩,.int .u32 (m:Int),.int .i64 (a:Int),.slice A la cA,.slice B lb cB] 26)):=
  ⟨fun o h=>h,hP.below ((Below.refl _ _).alloc (Nat.le_refl _) _),hG,by simp;omega,ArrT.first (hT.up HU1.out.size) (HU1.out.trans hU).size,by have:=HGQ.out.few;simp;omega,(HU1.out.trans hU).alloc _⟩
 have HJ:=Hi hJ;have HR0:=Hi hR;clear hJ hT hR hP hG hU;go_wp2_with fail
 go_loopw [3] (fun vl wr=>∃ xs l' g c,vl = .slice (some ⟨g,0,none⟩) xs.length c∧Hid (ArI w bp d (u :: q) x r xs l' g c wr)) (fun _ wr=>lenAt wr bp)
 case atStart=>exact ⟨[x],r,_,_,rfl,HJ⟩
 case round=>
  clear HJ;obtain ⟨xs,l',g,c,rfl,HH⟩:=hrel;obtain ⟨t,r',rfl⟩:=HH.out.gt.cons;have HIS:=Hi (is_ wr bp d t r' [44] HH.out.ps);by_cases hc:(t.s==[44])=true
  ·rw [hc] at HIS;have hk:t.k≠0:=by
    have:=okt_lit HH.out.gt.hd (by rw [eq_of_beq hc];decide);omega
   have hon:isS [44] t=true:=by rw [isS_eq HH.out.gt.hd (by decide)];exact hc
   have hgr:=HH.out.gt.tail hk;obtain ⟨t2,r2,hr2⟩:=hgr.cons;have hln:r'.length≤n:=by have:=HH.out.lt;simp at this;omega
   have HT:=Hi fun (w3:World) (hb3:Below wr.heap.size wr w3)=>take w3 bp d t r' (HH.out.ps.below hb3) (by rw [hr2];simp)
   have HGR:=Hi hgr;clear hc hgr hr2;go_wp2_with fail
   refine HIS.out.mono ?_;rintro e w3 ⟨rfl,hb3⟩;have HT3:=Hi (HT.out w3 hb3);have HB3:=Hi hb3;clear hb3 HT;go_wp2_with fail
   refine HT3.out.mono ?_;rintro e w4 ⟨rfl,hp4,hu4⟩;have HE4:=Hi (within_e H w4 bp d r' hln hd hp4 HGR.out);have HU4:=Hi ((below_UB (bp:=bp) HB3.out).trans hu4);clear hp4 hu4;go_wp2_with fail
   refine HE4.out.mono ?_;rintro e w5 (⟨k',a',s',m',A',la',cA',B',lb',cB',x',r5,rfl,hT,hR,hP,hG,hr,hU⟩ | ⟨a',er,rfl,hR,hU⟩)
   ·obtain ⟨css,how,hts⟩:=HH.out.arr;have hu5:UB bp wr w5:=HU4.out.trans hU;have hT5:TIn (fun b=>wr.heap.size≤b) w5 x' (ndC k' a' s' m' A' la' cA' B' lb' cB'):=hT.up HU4.out.size;have HOA:=Hi (World.ownsRow.alloc (own_upd3 how hu5 (by have:=(own_at how).1;omega)) (.cells #[.int .i64 (k':Int),.string ⟨s'.toArray⟩,.int .u32 (m':Int),.int .i64 (a':Int),.slice A' la' cA',.slice B' lb' cB'] 26));have HLI:=Hi (lies_full w5 26 (ndC k' a' s' m' A' la' cA' B' lb' cB'));have hsz:w.heap.size≤w5.heap.size:=Nat.le_trans HH.out.ub.size hu5.size;have HBS:=Hi (show w.heap.size≤(w5.alloc (.cells #[.int .i64 (k':Int),.string ⟨s'.toArray⟩,.int .u32 (m':Int),.int .i64 (a':Int),.slice A' la' cA',.slice B' lb' cB'] 26)).heap.size by simp;omega);have hfew:=HH.out.few;simp only [List.length_cons] at hfew;have HOW:=Hi how;have HTS:=Hi hts;have HU5:=Hi hu5;have HT5:=Hi hT5;have HR5:=Hi hR;have HP5:=Hi hP;have HG5:=Hi hG;clear how hts hu5 hT5 hT hR hP hG hU hsz;go_wp2_with (at_builtin;refine wpList_where rfl _ _ 23 rfl w.heap.size 26 i0 (.agg #[.int .i64 0,.string ⟨#[]⟩,.int .u32 0,.int .i64 0,.slice none 0 0,.slice none 0 0]) 6 88 Tryz.underlying23 HI.out HZ0.out HZ1.out HZ2.out rfl (by decide) _ xs.length _ rfl HOA.out ⟨w5.heap.size,0,none⟩ 1 1 (ndC k' a' s' m' A' la' cA' B' lb' cB') rfl rfl HLI.out (by simp [ndC,Value.oneCell']) (by unfold maxLen;omega) (by omega) HBS.out (by decide) ?_;intro g8 c8 w8 hE;have HE8:=Hi hE;clear hE)
    have HST:=Hi (arr_step HOW.out HTS.out hlt HU5.out HT5.out HE8.out);have HJ8:Hid (ArI w bp d (u :: q) x r (xs ++ [x']) r5 g8 c8 w8):=Hi ⟨fun o h=>HH.out.rd o (r_args hon HR5.out h),HP5.out.far HST.out.2.2 fun b hb=>by have:=(own_at HOW.out).1;omega,HG5.out,by have:=HH.out.lt;simp at this ⊢;omega,HST.out.1,by simp;omega,HST.out.2.1 w (Nat.le_refl _) HH.out.ub⟩
    go_roundw
    case rel=>exact ⟨xs ++ [x'],r5,g8,c8,by rw [List.length_append];rfl,HJ8⟩
    case measure=>
     rw [PS.len HJ8.out.ps,PS.len HH.out.ps];simp;omega
   ·have HR:=Hi hR;have HU:=Hi ((HH.out.ub.trans HU4.out).trans hU);clear hR hU;go_wp2_with fail
    exact ⟨rfl,.inr ⟨a',er,rfl,fun p s=>ar_bad1 HR0.out (HH.out.rd _ (r_args_bad hon HR.out)),HU.out⟩⟩
  ·have hc':(t.s==[44])=false:=by simpa using hc
   rw [hc'] at HIS;have hon:isS [44] t=false:=by rw [isS_eq HH.out.gt.hd (by decide)];exact hc'
   clear hc hc';go_wp2_with fail
   refine HIS.out.mono ?_;rintro e w3 ⟨rfl,hb3⟩;by_cases hv:(t.s==[41])=true
   ·have hk:t.k≠0:=by
     have:=okt_lit HH.out.gt.hd (by rw [eq_of_beq hv];decide);omega
    have hgr:=HH.out.gt.tail hk;obtain ⟨t2,r2,hr2⟩:=hgr.cons;have HM3:=Hi (must_yes w3 bp d t r' [41] (HH.out.ps.below hb3) hv (by rw [hr2];simp));have hon2:isS [41] t=true:=by rw [isS_eq HH.out.gt.hd (by decide)];exact hv
    have HB3:=Hi hb3;have HGR:=Hi hgr;clear hb3 hv hgr hr2;go_wp2_with fail
    refine HM3.out.mono ?_;rintro e w4 ⟨rfl,hp4,hu4⟩;have HP4:=Hi hp4;have HU4:=Hi hu4;clear hp4 hu4;go_wp2_with fail
    go_ret;have hu4:UB bp wr w4:=(below_UB HB3.out).trans HU4.out;refine .inl ⟨g,c,xs,r',rfl,HH.out.arr.upd hu4 (fun b hb=>by omega),by have:=HH.out.few;omega,fun p s=>ar_ok HR0.out (HH.out.rd _ (r_args_stop hon)) hon2,HP4.out,HGR.out,by have:=HH.out.lt;simp at this ⊢;omega,HH.out.ub.trans hu4⟩
   ·have hv':(t.s==[41])=false:=by simpa using hv
    have HM3:=Hi (must_no w3 bp d t r' [41] (HH.out.ps.below hb3) hv');have hon2:isS [41] t=false:=by rw [isS_eq HH.out.gt.hd (by decide)];exact hv'
    have HB3:=Hi hb3;clear hb3 hv hv';go_wp2_with fail
    refine HM3.out.mono ?_;rintro e w4 ⟨rfl,hu4⟩;have HU4:=Hi hu4;clear hu4;go_wp2_with fail
    exact ⟨rfl,.inr ⟨t.at_,100,rfl,fun p s=>ar_end HR0.out (HH.out.rd _ (r_args_stop hon)) hon2,HH.out.ub.trans ((below_UB HB3.out).trans HU4.out)⟩⟩
end
end Go.Proofs.YtcgibpdjfgjldaaGreatDoor.Pa
