/- DERIVED. PaRe, PaSn, PaSo, PaNa, Shelf, PaNb. By an AI agent. -/
import Derived.Test.YtcgibpdjfgjldaaGreatDoorQ05
import Derived.Test.YtcgibpdjfgjldaaGreatDoorQ11
import Derived.Test.YtcgibpdjfgjldaaGreatDoorQ01
import Derived.Test.YtcgibpdjfgjldaaGreatDoorRows
import Derived.WalkKit
import Derived.RegionTactic
import Derived.ProofKit
import Derived.Deep.QuietTactic
import Derived.BigQuiet
import Derived.Outline
import Derived.Lib.Hide
import Derived.WalkLawsBesides
import Derived.WalkSpells
import Derived.Lib.Strings
import Derived.Shelf.Strings.Trim
import Derived.Shelf.Small.Utf8
import Derived.Shelf.Small.Strs
import Derived.Shelf.Small.Wraps
import Derived.Shelf.Strings.Search1
import Derived.Shelf.Strings.Search2
import Derived.Shelf.Strings.Search3
import Derived.Shelf.Strings.Cut
import Derived.Shelf.LaysM
import Derived.Shelf.Strings.Shaped
import Derived.Shelf.Strings.Prefix
import Derived.Shelf.Unicode.Decode
import Derived.Shelf.Strings.Runes
import Derived.Shelf.Strings.AsciiSet
import Derived.Shelf.Unicode.DecodeSlow
import Derived.Shelf.Unicode.DecodeAny
import Derived.Shelf.Slices.Turned
import Derived.Test.YtcgibpdjfgjldaaGreatDoorProg
set_option maxRecDepth 100000
set_option maxHeartbeats 1600000
set_option linter.unusedVariables false
set_option linter.unusedSimpArgs false
namespace Go.Proofs.YtcgibpdjfgjldaaGreatDoor.Pa
open Lx
section
variable {num : Bs → Nat × Nat}
theorem must_y{b:Bs}{t:Tk}{r:List Tk}(h:isS b t=true)(f:List Tk→OO):must b (t :: r) f=f r:=if_pos h
theorem must_n{b:Bs}{t:Tk}{r:List Tk}(h:isS b t=false)(f:List Tk→OO):must b (t :: r) f=some (.bad t.at_ 100):=if_neg (by rw [h];decide)
theorem name_y{t:Tk}{r:List Tk}(h:t.k = 1)(f:Bs→List Tk→OO):nameK (t :: r) f=f t.s r:=if_pos h
theorem name_n{t:Tk}{r:List Tk}(h:t.k≠1)(f:Bs→List Tk→OO):nameK (t :: r) f=some (.bad t.at_ 100):=if_neg h
theorem isS_low{t:Tk}(h:t.k≤2)(b:Bs):isS b t=false:=by unfold isS;simp;omega
theorem ev_eq{K K':Nat→OO}{o:Out}(h:Ev K o)(he:∀ f,K' f=K f):Ev K' o:=by
 obtain ⟨g,hg⟩:=h;exact ⟨g,fun f hf=>(he f).trans (hg f hf)⟩
theorem l5(f d:Nat)(t:Tk)(r:List Tk):pF num (f+1) (.lev 5) d (t :: r)=if 60 < d then wrong (t :: r) 150
    else if (isS [126] t || isS [45] t)=true then bnd (pF num f (.lev 5) (d+1) r) fun xs r'=>some (.ok [.mk 2 t.at_ t.s 0 [] xs] r')
    else if t.k = 2 then (if (num t.s).2 = 0 then some (.ok [.mk 0 t.at_ [] (num t.s).1 [] []] r) else wrong (t :: r) (if (num t.s).2 = 4 then 100 else 150))
    else if isS [40] t=true then bnd (pF num f (.lev 0) (d+1) r) fun xs r'=>must [41] r' fun r''=>some (.ok (xs.map (·.put t.at_)) r'')
    else nameK (t :: r) fun s r=>match r with
     | []=>some (.ok [.mk 1 t.at_ s 0 [] []] [])
     | u :: r'=>if isS [40] u=true then bnd (pF num f (.lev 0) (d+1) r') fun xs r''=>bnd (pF num f (.args xs) (d+1) r'') fun ys r3=>must [41] r3 fun r4=>some (.ok [.mk 5 t.at_ s 0 [] ys] r4)
      else some (.ok [.mk 1 t.at_ s 0 [] []] (u :: r')):=rfl
theorem r_deep5{d:Nat}{t:Tk}{r:List Tk}(hd:60 < d):Rd num (.lev 5) d (t :: r) (.bad t.at_ 150):=rd_eq (ev_now _) fun f=>by rw [l5,if_pos hd];rfl
theorem lev_bad{n m d a e:Nat}{l:List Tk}(h:Rd num (.lev (n+m)) d l (.bad a e))(hn:n+m≤5):Rd num (.lev n) d l (.bad a e):=by
 induction m with
 | zero=>exact h
 | succ m ih=>exact ih (r_lev_bad (by omega) h) (by omega)
theorem r_deep0{d:Nat}{t:Tk}{r:List Tk}(hd:60 < d):Rd num (.lev 0) d (t :: r) (.bad t.at_ 150):=lev_bad (m:=5) (r_deep5 hd) (by omega)
theorem r_un{d:Nat}{t:Tk}{r r':List Tk}{xs:List Tr}(hd:d≤60)(ht:(isS [126] t || isS [45] t)=true)(h:Rd num (.lev 5) (d+1) r (.ok xs r')):Rd num (.lev 5) d (t :: r) (.ok [.mk 2 t.at_ t.s 0 [] xs] r'):=
 rd_eq (ev_bnd (K:=fun _ xs r'=>some (.ok [.mk 2 t.at_ t.s 0 [] xs] r')) h (ev_now _)) fun f=>by rw [l5,if_neg (by omega),if_pos ht]
theorem r_un_bad{d a e:Nat}{t:Tk}{r:List Tk}(hd:d≤60)(ht:(isS [126] t || isS [45] t)=true)(h:Rd num (.lev 5) (d+1) r (.bad a e)):Rd num (.lev 5) d (t :: r) (.bad a e):=
 rd_eq (ev_bad (K:=fun _ xs r'=>some (.ok [.mk 2 t.at_ t.s 0 [] xs] r')) h) fun f=>by rw [l5,if_neg (by omega),if_pos ht]
theorem r_num{d:Nat}{t:Tk}{r:List Tk}(hd:d≤60)(ht:t.k = 2)(h:(num t.s).2 = 0):Rd num (.lev 5) d (t :: r) (.ok [.mk 0 t.at_ [] (num t.s).1 [] []] r):=
 rd_eq (ev_now _) fun f=>by rw [l5,if_neg (by omega),if_neg (by rw [isS_low (by omega),isS_low (by omega)];decide),if_pos ht,if_pos h]
theorem r_num_bad{d:Nat}{t:Tk}{r:List Tk}(hd:d≤60)(ht:t.k = 2)(h:(num t.s).2≠0):Rd num (.lev 5) d (t :: r) (.bad t.at_ (if (num t.s).2 = 4 then 100 else 150)):=
 rd_eq (ev_now _) fun f=>by rw [l5,if_neg (by omega),if_neg (by rw [isS_low (by omega),isS_low (by omega)];decide),if_pos ht,if_neg h];rfl
theorem par_k{t:Tk}(ht:isS [40] t=true):(isS [126] t || isS [45] t)=false∧t.k≠2:=by
 unfold isS at ht ⊢;simp only [Bool.and_eq_true,decide_eq_true_eq] at ht;have:=eq_of_beq ht.2;rw [this];exact ⟨by simp,by omega⟩
theorem r_par{d:Nat}{t u:Tk}{r r':List Tk}{xs:List Tr}(hd:d≤60)(ht:isS [40] t=true)(h:Rd num (.lev 0) (d+1) r (.ok xs (u :: r')))(hu:isS [41] u=true):Rd num (.lev 5) d (t :: r) (.ok (xs.map (·.put t.at_)) r'):=
 rd_eq (ev_bnd (K:=fun _ xs r'=>must [41] r' fun r''=>some (.ok (xs.map (·.put t.at_)) r'')) h (ev_eq (ev_now _) fun f=>must_y hu _)) fun f=>by
  rw [l5,if_neg (by omega),if_neg (by rw [(par_k ht).1];decide),if_neg (par_k ht).2,if_pos ht]
theorem r_par_end{d:Nat}{t u:Tk}{r r':List Tk}{xs:List Tr}(hd:d≤60)(ht:isS [40] t=true)(h:Rd num (.lev 0) (d+1) r (.ok xs (u :: r')))(hu:isS [41] u=false):Rd num (.lev 5) d (t :: r) (.bad u.at_ 100):=
 rd_eq (ev_bnd (K:=fun _ xs r'=>must [41] r' fun r''=>some (.ok (xs.map (·.put t.at_)) r'')) h (ev_eq (ev_now _) fun f=>must_n hu _)) fun f=>by
  rw [l5,if_neg (by omega),if_neg (by rw [(par_k ht).1];decide),if_neg (par_k ht).2,if_pos ht]
theorem r_par_bad{d a e:Nat}{t:Tk}{r:List Tk}(hd:d≤60)(ht:isS [40] t=true)(h:Rd num (.lev 0) (d+1) r (.bad a e)):Rd num (.lev 5) d (t :: r) (.bad a e):=
 rd_eq (ev_bad (K:=fun _ xs r'=>must [41] r' fun r''=>some (.ok (xs.map (·.put t.at_)) r'')) h) fun f=>by
  rw [l5,if_neg (by omega),if_neg (by rw [(par_k ht).1];decide),if_neg (par_k ht).2,if_pos ht]
theorem r_nothing{d:Nat}{t:Tk}{r:List Tk}(hd:d≤60)(h1:(isS [126] t || isS [45] t)=false)(h2:t.k≠2)(h3:isS [40] t=false)(h4:t.k≠1):Rd num (.lev 5) d (t :: r) (.bad t.at_ 100):=
 rd_eq (ev_now _) fun f=>by rw [l5,if_neg (by omega),if_neg (by rw [h1];decide),if_neg h2,if_neg (by rw [h3];decide),name_n h4]
theorem nm5(f d:Nat)(t:Tk)(r:List Tk)(hd:d≤60)(ht:t.k = 1):pF num (f+1) (.lev 5) d (t :: r)=match r with
     | []=>some (.ok [.mk 1 t.at_ t.s 0 [] []] [])
     | u :: r'=>if isS [40] u=true then bnd (pF num f (.lev 0) (d+1) r') fun xs r''=>bnd (pF num f (.args xs) (d+1) r'') fun ys r3=>must [41] r3 fun r4=>some (.ok [.mk 5 t.at_ t.s 0 [] ys] r4)
      else some (.ok [.mk 1 t.at_ t.s 0 [] []] (u :: r')):=by
 rw [l5,if_neg (by omega),if_neg (by rw [isS_low (by omega),isS_low (by omega)];decide),if_neg (by omega),if_neg (by rw [isS_low (by omega)];decide),name_y ht]
theorem r_name{d:Nat}{t u:Tk}{r:List Tk}(hd:d≤60)(ht:t.k = 1)(hu:isS [40] u=false):Rd num (.lev 5) d (t :: u :: r) (.ok [.mk 1 t.at_ t.s 0 [] []] (u :: r)):=
 rd_eq (ev_now _) fun f=>by rw [nm5 _ _ _ _ hd ht];exact if_neg (by rw [hu];decide)
def ArK(num:Bs→Nat×Nat)(f d a:Nat)(s:Bs)(r:List Tk):OO:=bnd (pF num f (.lev 0) (d+1) r) fun xs r''=>bnd (pF num f (.args xs) (d+1) r'') fun ys r3=>must [41] r3 fun r4=>some (.ok [.mk 5 a s 0 [] ys] r4)
theorem r_call{d:Nat}{t u:Tk}{r:List Tk}{o:Out}(hd:d≤60)(ht:t.k = 1)(hu:isS [40] u=true)(h:Ev (fun f=>ArK num f d t.at_ t.s r) o):Rd num (.lev 5) d (t :: u :: r) o:=
 rd_eq h fun f=>by rw [nm5 _ _ _ _ hd ht];exact if_pos hu
theorem r_args_stop{d:Nat}{t:Tk}{r:List Tk}{xs:List Tr}(ht:isS [44] t=false):Rd num (.args xs) d (t :: r) (.ok xs (t :: r)):=
 rd_eq (ev_now _) fun f=>by
  conv=>lhs;unfold pF
  simp only;rw [if_neg (by rw [ht];decide)]
theorem r_args{d:Nat}{t:Tk}{r r':List Tk}{xs ys:List Tr}{o:Out}(ht:isS [44] t=true)(h:Rd num (.lev 0) d r (.ok ys r'))(h2:Rd num (.args (xs ++ ys)) d r' o):Rd num (.args xs) d (t :: r) o:=
 rd_eq (ev_bnd (K:=fun f ys r'=>pF num f (.args (xs ++ ys)) d r') h h2) fun f=>by
  conv=>lhs;unfold pF
  simp only;rw [if_pos ht]
theorem r_args_bad{d a e:Nat}{t:Tk}{r:List Tk}{xs:List Tr}(ht:isS [44] t=true)(h:Rd num (.lev 0) d r (.bad a e)):Rd num (.args xs) d (t :: r) (.bad a e):=
 rd_eq (ev_bad (K:=fun f ys r'=>pF num f (.args (xs ++ ys)) d r') h) fun f=>by
  conv=>lhs;unfold pF
  simp only;rw [if_pos ht]
def SetK(num:Bs→Nat×Nat)(f k a d:Nat)(l:List Tk):OO:=nameK l fun s r1=>must [61] r1 fun r2=>pF num f (.fin k a s []) d r2
theorem r_fin{k a d:Nat}{s:Bs}{ps:List Bs}{l r:List Tk}{t:Tk}{xs:List Tr}(h:Rd num (.lev 0) d l (.ok xs (t :: r)))(ht:isS [59] t=true):Rd num (.fin k a s ps) d l (.ok [.mk k a s 0 ps xs] r):=
 rd_eq (ev_bnd (K:=fun _ xs r=>must [59] r fun r'=>some (.ok [.mk k a s 0 ps xs] r')) h (ev_eq (ev_now _) fun _=>must_y ht _)) fun f=>by conv=>lhs;unfold pF
theorem r_fin_end{k a d:Nat}{s:Bs}{ps:List Bs}{l r:List Tk}{t:Tk}{xs:List Tr}(h:Rd num (.lev 0) d l (.ok xs (t :: r)))(ht:isS [59] t=false):Rd num (.fin k a s ps) d l (.bad t.at_ 100):=
 rd_eq (ev_bnd (K:=fun _ xs r=>must [59] r fun r'=>some (.ok [.mk k a s 0 ps xs] r')) h (ev_eq (ev_now _) fun _=>must_n ht _)) fun f=>by conv=>lhs;unfold pF
theorem r_fin_bad{k a d p e:Nat}{s:Bs}{ps:List Bs}{l:List Tk}(h:Rd num (.lev 0) d l (.bad p e)):Rd num (.fin k a s ps) d l (.bad p e):=
 rd_eq (ev_bad (K:=fun _ xs r=>must [59] r fun r'=>some (.ok [.mk k a s 0 ps xs] r')) h) fun f=>by conv=>lhs;unfold pF
theorem in_(f d:Nat)(t:Tk)(r:List Tk):pF num (f+1) .inner d (t :: r)=if 60 < d then wrong (t :: r) 150
   else if isS [102,111,114] t=true then nameK r fun s r1=>must [105,110] r1 fun r2=>bnd (pF num f (.lev 0) d r2) fun xs r3=>must [46,46] r3 fun r4=>bnd (pF num f (.lev 0) d r4) fun ys r5=>must [123] r5 fun r6=>
    bnd (pF num f (.inners (xs ++ ys)) d r6) fun zs r7=>some (.ok [.mk 11 t.at_ s 0 [] zs] r7)
   else SetK num f 10 t.at_ d (t :: r):=rfl
theorem r_deepI{d:Nat}{t:Tk}{r:List Tk}(hd:60 < d):Rd num .inner d (t :: r) (.bad t.at_ 150):=rd_eq (ev_now _) fun f=>by rw [in_,if_pos hd];rfl
theorem r_let{d:Nat}{t:Tk}{r:List Tk}{o:Out}(hd:d≤60)(ht:isS [102,111,114] t=false)(h:Ev (fun f=>SetK num f 10 t.at_ d (t :: r)) o):Rd num .inner d (t :: r) o:=
 rd_eq h fun f=>by rw [in_,if_neg (by omega),if_neg (by rw [ht];decide)]
def ForK(num:Bs→Nat×Nat)(f a d:Nat)(r:List Tk):OO:=nameK r fun s r1=>must [105,110] r1 fun r2=>bnd (pF num f (.lev 0) d r2) fun xs r3=>must [46,46] r3 fun r4=>bnd (pF num f (.lev 0) d r4) fun ys r5=>must [123] r5 fun r6=>
    bnd (pF num f (.inners (xs ++ ys)) d r6) fun zs r7=>some (.ok [.mk 11 a s 0 [] zs] r7)
theorem r_for{d:Nat}{t:Tk}{r:List Tk}{o:Out}(hd:d≤60)(ht:isS [102,111,114] t=true)(h:Ev (fun f=>ForK num f t.at_ d r) o):Rd num .inner d (t :: r) o:=
 rd_eq h fun f=>by rw [in_,if_neg (by omega),if_pos ht];rfl
theorem r_inners_end{d:Nat}{t:Tk}{r:List Tk}{zs:List Tr}(ht:isS [125] t=true):Rd num (.inners zs) d (t :: r) (.ok zs r):=
 rd_eq (ev_now _) fun f=>by
  conv=>lhs;unfold pF
  simp only;rw [if_pos ht]
theorem r_inners{d:Nat}{t:Tk}{r r':List Tk}{zs xs:List Tr}{o:Out}(ht:isS [125] t=false)(h:Rd num .inner (d+1) (t :: r) (.ok xs r'))(h2:Rd num (.inners (zs ++ xs)) d r' o):Rd num (.inners zs) d (t :: r) o:=
 rd_eq (ev_bnd (K:=fun f xs r'=>pF num f (.inners (zs ++ xs)) d r') h h2) fun f=>by
  conv=>lhs;unfold pF
  simp only;rw [if_neg (by rw [ht];decide)]
theorem r_inners_bad{d a e:Nat}{t:Tk}{r:List Tk}{zs:List Tr}(ht:isS [125] t=false)(h:Rd num .inner (d+1) (t :: r) (.bad a e)):Rd num (.inners zs) d (t :: r) (.bad a e):=
 rd_eq (ev_bad (K:=fun f xs r'=>pF num f (.inners (zs ++ xs)) d r') h) fun f=>by
  conv=>lhs;unfold pF
  simp only;rw [if_neg (by rw [ht];decide)]
def InK(k a:Nat)(r:List Tk):OO:=namesK [] r fun ps r1=>must [59] r1 fun r2=>some (.ok [.mk k a [] 0 ps []] r2)
def FnK(num:Bs→Nat×Nat)(f a d:Nat)(r:List Tk):OO:=nameK r fun s r1=>must [40] r1 fun r2=>namesK [] r2 fun ps r3=>must [41] r3 fun r4=>must [61] r4 fun r5=>pF num f (.fin 12 a s ps) d r5
theorem st_(f d:Nat)(t:Tk)(r:List Tk):pF num (f+1) .stmt d (t :: r)=if isS [115,101,99,114,101,116] t=true then InK 6 t.at_ r
   else if isS [112,117,98,108,105,99] t=true then InK 7 t.at_ r
   else if isS [111,117,116] t=true then SetK num f 8 t.at_ d r
   else if isS [115,104,111,119] t=true then SetK num f 9 t.at_ d r
   else if isS [102,110] t=true then FnK num f t.at_ d r
   else pF num f .inner 0 (t :: r):=rfl
theorem r_stmts_end{d:Nat}{t:Tk}{r:List Tk}{xs:List Tr}(ht:t.k = 0):Rd num (.stmts xs) d (t :: r) (.ok xs (t :: r)):=
 rd_eq (ev_now _) fun f=>by
  conv=>lhs;unfold pF
  simp only;rw [if_pos ht]
theorem r_stmts{d:Nat}{t:Tk}{r r':List Tk}{xs ys:List Tr}{o:Out}(ht:t.k≠0)(h:Rd num .stmt 0 (t :: r) (.ok ys r'))(h2:Rd num (.stmts (xs ++ ys)) d r' o):Rd num (.stmts xs) d (t :: r) o:=
 rd_eq (ev_bnd (K:=fun f ys r'=>pF num f (.stmts (xs ++ ys)) d r') h h2) fun f=>by
  conv=>lhs;unfold pF
  simp only;rw [if_neg ht]
theorem r_stmts_bad{d a e:Nat}{t:Tk}{r:List Tk}{xs:List Tr}(ht:t.k≠0)(h:Rd num .stmt 0 (t :: r) (.bad a e)):Rd num (.stmts xs) d (t :: r) (.bad a e):=
 rd_eq (ev_bad (K:=fun f ys r'=>pF num f (.stmts (xs ++ ys)) d r') h) fun f=>by
  conv=>lhs;unfold pF
  simp only;rw [if_neg ht]
end
end Go.Proofs.YtcgibpdjfgjldaaGreatDoor.Pa
namespace Go.Proofs.YtcgibpdjfgjldaaGreatDoor.Pa
open Go Go.ChangeShapes Go.WideShapes Go.ChangeAt Go.RowKit Lx Args
section
attribute [local go_sem] fTk0 fTk1 fTk2
theorem is_(w:World)(bp d:Nat)(t:Tk)(r:List Tk)(b:Bs)(hp:PS w bp (t :: r) d) :
  Calls Tryz.prog 158 #[.pointer (some ⟨bp,0,none⟩),.string ⟨b.toArray⟩] w fun e w'=>e = .returned (.bool (t.s==b))∧Below w.heap.size w w':=by
 have HN:=Hi (next w bp d t r hp);clear hp;go_enter Tryz.func158,Tryz.ntmps158;go_wp2_with fail
 refine HN.out.mono ?_;rintro e w1 ⟨rfl,hb1⟩;have HB1:=Hi hb1;clear hb1;go_wp2_with fail
 go_ret;exact ⟨rfl,HB1.out⟩
theorem take(w:World)(bp d:Nat)(t:Tk)(r:List Tk)(hp:PS w bp (t :: r) d)(hr:r≠[]) :
  Calls Tryz.prog 129 #[.pointer (some ⟨bp,0,none⟩)] w fun e w'=>e = .returned (.agg #[.int .i64 (t.k:Int),.string ⟨t.s.toArray⟩,.int .i64 (t.at_:Int)])∧PS w' bp r d∧UB bp w w':=by
 obtain ⟨w0,hw0⟩:∃ w0,w.alloc (.cells #[.int .i64 0,.string ⟨#[]⟩,.int .i64 0] 63)=w0:=⟨_,rfl⟩;have hb0:Below w.heap.size w w0:=by rw [←hw0];exact (Below.refl _ _).alloc (Nat.le_refl _) _
 have hB:Blk w0 w.heap.size 63 #[.int .i64 0,.string ⟨#[]⟩,.int .i64 0]:=by rw [←hw0];exact Blk.new _ _ _
 have hlt:=hp.lt;have HN:=Hi (next w0 bp d t r (hp.below hb0));have HP:=Hi (hp.below hb0);have HB0:=Hi hb0;have HB:=Hi hB;have HW:=Hi hw0;clear hb0 hB hp hw0;go_enter Tryz.func129,Tryz.ntmps129;go_wp2_with fail
 rw [HW.out];refine HN.out.mono ?_;rintro e w1 ⟨rfl,hb1⟩;obtain ⟨b,o,c,hn,hc1,hc2,f0,f1,f2,f3,f4,f5,f6⟩:=(HP.out.below hb1).head;have HP1:=Hi (HP.out.below hb1);have hlt1:=(HP.out.below hb1).lt;have hlt0:=HB.out.lt;have h1:Blk w1 w.heap.size 63 #[.int .i64 0,.string ⟨#[]⟩,.int .i64 0]:=HB.out.below hb1 hlt0;have HB1:=Hi (HB0.out.trans (hb1.mono HB0.out.size));have H1:=Hi h1;have hrl:r.length≠0:=fun h=>hr (List.length_eq_zero_iff.1 h)
 have hne:w.heap.size≠bp:=by omega
 have hlg:w.heap.size < w1.heap.size:=h1.lt;obtain ⟨e0,e1,e2,z0,z1,z2⟩:=Blk.c3 h1;have HF0:=Hi f0;clear h1 hb1 hr f1 f3 f4 f5 f6;go_wp2_with fail
 refine bodyPost_ret (resTk rfl rfl ((Blk.put3 (H1.out.far hne _) _ _ _).alloc _) rfl) rfl ⟨rfl,?_,?_⟩
 ·exact (PS.take HP1.out HF0.out).far ((((((Upd.refl (fun b=>bp < b) _).setCell (fun _=>hlt) _).setCell (fun _=>hlt) _).setCell (fun _=>hlt) _).alloc _)) (fun _ h=>h)
 ·have hg:∀ q:Nat,w.heap.size < w.heap.size→q=bp:=fun q h=>absurd h (Nat.lt_irrefl _)
  exact ((((((below_UB (bp:=bp) HB1.out).setCell (fun _=>rfl) _).setCell (hg _) _).setCell (hg _) _).setCell (hg _) _).alloc _)
abbrev panV(a er:Nat):Ending:=.panicked [{ v:=.iface 158 (.agg #[.int .i64 (a:Int),.int .i64 (er:Int)]),recovered:=false }]
theorem must_no(w:World)(bp d:Nat)(t:Tk)(r:List Tk)(b:Bs)(hp:PS w bp (t :: r) d)(hb:(t.s==b)=false) :
  Calls Tryz.prog 173 #[.pointer (some ⟨bp,0,none⟩),.string ⟨b.toArray⟩] w fun e w'=>e=panV t.at_ 100∧UB bp w w':=by
 obtain ⟨w0,hw0⟩:∃ w0,w.alloc (.cells #[.int .i64 0,.string ⟨#[]⟩,.int .i64 0] 63)=w0:=⟨_,rfl⟩;have hb0:Below w.heap.size w w0:=by rw [←hw0];exact (Below.refl _ _).alloc (Nat.le_refl _) _
 have hI:=is_ w0 bp d t r b (hp.below hb0);rw [hb] at hI;have HI:=Hi hI;have HP:=Hi (hp.below hb0);have HB0:=Hi hb0;have HW:=Hi hw0;clear hb0 hp hw0 hI hb;go_enter Tryz.func173,Tryz.ntmps173;go_wp2_with fail
 rw [HW.out];refine HI.out.mono ?_;rintro e w1 ⟨rfl,hb1⟩;have HH:=Hi (here w1 bp d t r 100 (HP.out.below hb1));have HB1:=Hi (HB0.out.trans (hb1.mono HB0.out.size));clear hb1;go_wp2_with fail
 refine HH.out.mono ?_;rintro e w2 ⟨rfl,hb2⟩;have HB2:=Hi (HB1.out.trans (hb2.mono HB1.out.size));clear hb2;go_wp2_with fail
 exact ⟨rfl,rfl,below_UB HB2.out⟩
end
section
attribute [local go_sem] fTk0 fTk1 fTk2
theorem must_yes(w:World)(bp d:Nat)(t:Tk)(r:List Tk)(b:Bs)(hp:PS w bp (t :: r) d)(hb:(t.s==b)=true)(hr:r≠[]) :
  Calls Tryz.prog 173 #[.pointer (some ⟨bp,0,none⟩),.string ⟨b.toArray⟩] w fun e w'=>e = .returned (.agg #[.int .i64 (t.k:Int),.string ⟨t.s.toArray⟩,.int .i64 (t.at_:Int)])∧PS w' bp r d∧UB bp w w':=by
 obtain ⟨w0,hw0⟩:∃ w0,w.alloc (.cells #[.int .i64 0,.string ⟨#[]⟩,.int .i64 0] 63)=w0:=⟨_,rfl⟩;have hb0:Below w.heap.size w w0:=by rw [←hw0];exact (Below.refl _ _).alloc (Nat.le_refl _) _
 have hB:Blk w0 w.heap.size 63 #[.int .i64 0,.string ⟨#[]⟩,.int .i64 0]:=by rw [←hw0];exact Blk.new _ _ _
 have hlt:=hp.lt;have hI:=is_ w0 bp d t r b (hp.below hb0);rw [hb] at hI;have HI:=Hi hI;have HP:=Hi (hp.below hb0);have HB0:=Hi hb0;have HB:=Hi hB;have HW:=Hi hw0;have HR:=Hi hr;clear hb0 hp hw0 hI hb hB hr;go_enter Tryz.func173,Tryz.ntmps173;go_wp2_with fail
 rw [HW.out];refine HI.out.mono ?_;rintro e w1 ⟨rfl,hb1⟩;have HT:=Hi (take w1 bp d t r (HP.out.below hb1) HR.out);have HB1:=Hi (HB.out.below hb1 HB.out.lt);have HU1:=Hi ((below_UB (bp:=bp) HB0.out).trans (below_UB (bp:=bp) hb1));clear hb1;go_wp2_with fail
 refine HT.out.mono ?_;rintro e w2 ⟨rfl,hp2,hu2⟩;have h2:Blk w2 w.heap.size 63 #[.int .i64 0,.string ⟨#[]⟩,.int .i64 0]:=HB1.out.upd hu2 (by omega);obtain ⟨e0,e1,e2,z0,z1,z2⟩:=Blk.c3 h2;have H2:=Hi h2;have HP2:=Hi hp2;have HU2:=Hi (HU1.out.trans hu2);clear h2 hp2 hu2;go_wp2_with fail
 refine bodyPost_ret (resTk rfl rfl (Blk.put3 H2.out _ _ _) rfl) rfl ⟨rfl,?_,?_⟩
 ·exact HP2.out.far ((((Upd.refl (fun b=>bp < b) _).setCell (fun _=>hlt) _).setCell (fun _=>hlt) _).setCell (fun _=>hlt) _) (fun _ h=>h)
 ·have hg:∀ q:Nat,w.heap.size < w.heap.size→q=bp:=fun q h=>absurd h (Nat.lt_irrefl _)
  exact (((HU2.out.setCell (hg _) _).setCell (hg _) _).setCell (hg _) _)
theorem name_no(w:World)(bp d:Nat)(t:Tk)(r:List Tk)(hp:PS w bp (t :: r) d)(hk:t.k≠1) :
  Calls Tryz.prog 174 #[.pointer (some ⟨bp,0,none⟩)] w fun e w'=>e=panV t.at_ 100∧UB bp w w':=by
 have HN:=Hi (next w bp d t r hp);have HP:=Hi hp;have hq:((t.k:Int) != 1)=true:=by simp;omega
 clear hp hk;go_enter Tryz.func174,Tryz.ntmps174;go_wp2_with fail
 refine HN.out.mono ?_;rintro e w1 ⟨rfl,hb1⟩;have HH:=Hi (here w1 bp d t r 100 (HP.out.below hb1));have HB1:=Hi hb1;clear hb1;go_wp2_with fail
 refine HH.out.mono ?_;rintro e w2 ⟨rfl,hb2⟩;have HB2:=Hi (HB1.out.trans (hb2.mono HB1.out.size));clear hb2;go_wp2_with fail
 exact ⟨rfl,rfl,below_UB HB2.out⟩
theorem name_yes(w:World)(bp d:Nat)(t:Tk)(r:List Tk)(hp:PS w bp (t :: r) d)(hk:t.k = 1)(hr:r≠[]) :
  Calls Tryz.prog 174 #[.pointer (some ⟨bp,0,none⟩)] w fun e w'=>e = .returned (.string ⟨t.s.toArray⟩)∧PS w' bp r d∧UB bp w w':=by
 have hn:=next w bp d t r hp;rw [hk] at hn;have HN:=Hi hn;have HP:=Hi hp;have HR:=Hi hr;clear hp hk hn hr;go_enter Tryz.func174,Tryz.ntmps174;go_wp2_with fail
 refine HN.out.mono ?_;rintro e w1 ⟨rfl,hb1⟩;have HT:=Hi (take w1 bp d t r (HP.out.below hb1) HR.out);have HU1:=Hi (below_UB (bp:=bp) hb1);clear hb1;go_wp2_with fail
 refine HT.out.mono ?_;rintro e w2 ⟨rfl,hp2,hu2⟩;have HP2:=Hi hp2;have HU2:=Hi (HU1.out.trans hu2);clear hp2 hu2;go_wp2_with fail
 go_ret;exact ⟨rfl,HP2.out,HU2.out⟩
theorem node(w:World)(k a:Nat)(s:Bs)(A:Option Addr)(la cA:Nat) :
  Calls Tryz.prog 125 #[.int .i64 (k:Int),.string ⟨s.toArray⟩,.int .i64 (a:Int),.slice A la cA] w fun e w'=>
   e = .returned (.agg #[.int .i64 (k:Int),.string ⟨s.toArray⟩,.int .u32 0,.int .i64 (a:Int),.slice A la cA,.slice none 0 0])∧Below w.heap.size w w':=by
 go_enter Tryz.func125,Tryz.ntmps125;go_wp2_with fail
 refine bodyPost_ret (resNd rfl rfl (Blk.new _ _ _) rfl) rfl ⟨rfl,?_⟩;exact (Below.refl _ _).alloc (Nat.le_refl _) _
theorem sign(w:World)(s:Bs) :
  Calls Tryz.prog 128 #[.string ⟨s.toArray⟩] w fun e w'=>e = .returned (.tuple #[.int .i64 (kindT s:Int),.int .i64 (levT s:Int)])∧w=w':=by
 by_cases h0:s=[124]
 ·subst h0;go_enter Tryz.func128,Tryz.ntmps128;go_wp2_with fail
  go_ret2
  exact ⟨rfl,rfl⟩
 by_cases h1:s=[94]
 ·subst h1;go_enter Tryz.func128,Tryz.ntmps128;go_wp2_with fail
  go_ret2
  exact ⟨rfl,rfl⟩
 by_cases h2:s=[38]
 ·subst h2;go_enter Tryz.func128,Tryz.ntmps128;go_wp2_with fail
  go_ret2
  exact ⟨rfl,rfl⟩
 by_cases h3:s=[60,60]
 ·subst h3;go_enter Tryz.func128,Tryz.ntmps128;go_wp2_with fail
  go_ret2
  exact ⟨rfl,rfl⟩
 by_cases h4:s=[62,62]
 ·subst h4;go_enter Tryz.func128,Tryz.ntmps128;go_wp2_with fail
  go_ret2
  exact ⟨rfl,rfl⟩
 by_cases h5:s=[60,60,60]
 ·subst h5;go_enter Tryz.func128,Tryz.ntmps128;go_wp2_with fail
  go_ret2
  exact ⟨rfl,rfl⟩
 by_cases h6:s=[43]
 ·subst h6;go_enter Tryz.func128,Tryz.ntmps128;go_wp2_with fail
  go_ret2
  exact ⟨rfl,rfl⟩
 by_cases h7:s=[45]
 ·subst h7;go_enter Tryz.func128,Tryz.ntmps128;go_wp2_with fail
  go_ret2
  exact ⟨rfl,rfl⟩
 have hz:levT s = 0:=by simp [levT,h0,h1,h2,h3,h4,h5,h6,h7]
 have hk:kindT s = 0:=by simp [kindT,hz]
 rw [hz,hk];have g0:(s==[124])=false:=by simpa using h0
 have g1:(s==[94])=false:=by simpa using h1
 have g2:(s==[38])=false:=by simpa using h2
 have g3:(s==[60,60])=false:=by simpa using h3
 have g4:(s==[62,62])=false:=by simpa using h4
 have g5:(s==[60,60,60])=false:=by simpa using h5
 have g6:(s==[43])=false:=by simpa using h6
 have g7:(s==[45])=false:=by simpa using h7
 clear hz hk;go_enter Tryz.func128,Tryz.ntmps128;go_wp2_with fail
 go_ret2
 exact ⟨rfl,rfl⟩
end
end Go.Proofs.YtcgibpdjfgjldaaGreatDoor.Pa
namespace Go.Proofs.YtcgibpdjfgjldaaGreatDoor.Num
open Go.ChangeShapes Go.WideShapes Go.ChangeAt Go.RowKit
def dvN(c:Nat):Nat:=if 48≤c∧c≤57 then c - 48 else if 97≤c∧c≤102 then c - 87 else if 65≤c∧c≤70 then c - 55 else 16
theorem dvN_le(c:Nat):dvN c≤16:=by unfold dvN;split <;> (try split) <;> (try split) <;> omega
theorem digitC(c:Nat)(hc:c < 256)(w:World):Calls Tryz.prog 214 #[.int .u8 c] w fun e w'=>e = .returned (.int .u64 (dvN c:Nat))∧w=w':=by
 by_cases h1:48≤c∧c≤57
 ·have hd:dvN c=c - 48:=by simp [dvN,h1]
  obtain ⟨a,b⟩:=h1;have HD:=Hi hd;clear hd;go_enter Tryz.func214,Tryz.ntmps214
  go_wp2
  go_ret;exact ⟨by rw [HD.out];go_num,rfl⟩
 by_cases h2:97≤c∧c≤102
 ·have hd:dvN c=c - 87:=by simp [dvN,h1,h2]
  obtain ⟨a,b⟩:=h2;have HD:=Hi hd;clear hd h1;have n1:¬ c≤57:=by omega
  go_enter Tryz.func214,Tryz.ntmps214
  go_wp2
  go_ret;exact ⟨by rw [HD.out];go_num,rfl⟩
 by_cases h3:65≤c∧c≤70
 ·have hd:dvN c=c - 55:=by simp [dvN,h1,h2,h3]
  obtain ⟨a,b⟩:=h3;have HD:=Hi hd;clear hd h1 h2;have n1:¬ c≤57:=by omega
  have n2:¬ 97≤c:=by omega
  go_enter Tryz.func214,Tryz.ntmps214
  go_wp2
  go_ret;exact ⟨by rw [HD.out];go_num,rfl⟩
 have hd:dvN c = 16:=by simp [dvN,h1,h2,h3]
 have HD:=Hi hd;clear hd;have hr:c < 48∨(57 < c∧c < 65)∨(70 < c∧c < 97)∨102 < c:=by omega
 clear h1 h2 h3;rcases hr with r | ⟨r1,r2⟩ | ⟨r1,r2⟩ | r
 all_goals
  go_enter Tryz.func214,Tryz.ntmps214
  go_wp2
  go_ret;exact ⟨by rw [HD.out];rfl,rfl⟩
def nrun(base:Nat):List UInt8→Nat→Option Nat
 | [],n=>some n
 | c :: l,n=>if dvN c.toNat < base then nrun base l (min (n * base+dvN c.toNat) 4294967296) else none
def numR(base:Nat)(L:List UInt8):Nat×Nat:=
 if L=[] then (0,4) else match nrun base L 0 with
  | none=>(0,4)
  | some n=>if n = 4294967296 then (0,2) else (n,0)
def resN(r:Nat×Nat):Value:=.tuple #[.int .u32 (r.1:Nat),.int .i64 (r.2:Nat)]
end Go.Proofs.YtcgibpdjfgjldaaGreatDoor.Num
namespace Go.Proofs
open Go.Shelf
section
def Tryz.lays161_ren:Go.Shelf.Ren:=⟨fun | 161=>176 | 231=>195 | 227=>196 | 233=>197 | 235=>198 | 228=>207 | 197=>208 | 151=>209 | 260=>215 | 152=>216 | 137=>222 | 119=>223 | 224=>219 | 225=>218 | 217=>217 | 266=>224 | n=>n,fun | 9=>9 | 4=>4 | 3=>3 | 5=>5 | 117=>236 | 116=>235 | 0=>0 | 124=>239 | 105=>242 | 21=>21 | 119=>252 | 46=>208 | 139=>255 | 138=>254 | n=>n,fun | 3=>1 | 4=>2 | n=>n⟩
theorem Tryz.lays161:Go.Proofs.Lays.n161 Tryz.prog Tryz.lays161_ren:={
 mixed:=by kernel_rfl
 f119:=Tryz.func223.trans (congrArg some (by kernel_rfl))
 f137:=Tryz.func222.trans (congrArg some (by kernel_rfl))
 f151:=Tryz.func209.trans (congrArg some (by kernel_rfl))
 f152:=Tryz.func216.trans (congrArg some (by kernel_rfl))
 f161:=Tryz.func176.trans (congrArg some (by kernel_rfl))
 f197:=Tryz.func208.trans (congrArg some (by kernel_rfl))
 f217:=Tryz.func217.trans (congrArg some (by kernel_rfl))
 f224:=Tryz.func219.trans (congrArg some (by kernel_rfl))
 f225:=Tryz.func218.trans (congrArg some (by kernel_rfl))
 f227:=Tryz.func196.trans (congrArg some (by kernel_rfl))
 f228:=Tryz.func207.trans (congrArg some (by kernel_rfl))
 f231:=Tryz.func195.trans (congrArg some (by kernel_rfl))
 f233:=Tryz.func197.trans (congrArg some (by kernel_rfl))
 f235:=Tryz.func198.trans (congrArg some (by kernel_rfl))
 f260:=Tryz.func215.trans (congrArg some (by kernel_rfl))
 f266:=Tryz.func224.trans (congrArg some (by kernel_rfl))
 t0:=Tryz.underlying0
 a0:=Tryz.isAgg0
 z0:=Tryz.sizeOf0
 v0:=Tryz.zeroValue0
 t3:=Tryz.underlying3
 a3:=Tryz.isAgg3
 z3:=Tryz.sizeOf3
 v3:=Tryz.zeroValue3
 t4:=Tryz.underlying4
 a4:=Tryz.isAgg4
 z4:=Tryz.sizeOf4
 v4:=Tryz.zeroValue4
 t5:=Tryz.underlying5
 a5:=Tryz.isAgg5
 z5:=Tryz.sizeOf5
 v5:=Tryz.zeroValue5
 t9:=Tryz.underlying9
 a9:=Tryz.isAgg9
 z9:=Tryz.sizeOf9
 v9:=Tryz.zeroValue9
 t21:=Tryz.underlying21
 a21:=Tryz.isAgg21
 z21:=Tryz.sizeOf21
 v21:=Tryz.zeroValue21
 t46:=Tryz.underlying208
 a46:=Tryz.isAgg208
 z46:=Tryz.sizeOf208
 v46:=Tryz.zeroValue208
 t105:=Tryz.underlying242
 a105:=Tryz.isAgg242
 z105:=Tryz.sizeOf242
 v105:=Tryz.zeroValue242
 t116:=Tryz.underlying235
 a116:=Tryz.isAgg235
 z116:=Tryz.sizeOf235
 t117:=Tryz.underlying236
 a117:=Tryz.isAgg236
 z117:=Tryz.sizeOf236
 v117:=Tryz.zeroValue236
 t119:=Tryz.underlying252
 a119:=Tryz.isAgg252
 z119:=Tryz.sizeOf252
 t124:=Tryz.underlying239
 a124:=Tryz.isAgg239
 z124:=Tryz.sizeOf239
 v124:=Tryz.zeroValue239
 t138:=Tryz.underlying254
 a138:=Tryz.isAgg254
 z138:=Tryz.sizeOf254
 v138:=Tryz.zeroValue254
 t139:=Tryz.underlying255
 a139:=Tryz.isAgg255
 z139:=Tryz.sizeOf255
 v139:=Tryz.zeroValue255
 g3:=by kernel_rfl
 g4:=by kernel_rfl }
open Go.RowKit in
def Tryz.lays103_ren:Go.Shelf.Ren:=⟨fun | 103=>213 | 210=>221 | 206=>199 | n=>n,fun | 9=>9 | 4=>4 | 24=>246 | 3=>3 | n=>n,fun | n=>n⟩
theorem Tryz.lays103:Go.Proofs.Lays.n103 Tryz.prog Tryz.lays103_ren:={
 mixed:=by kernel_rfl
 f103:=Tryz.func213.trans (congrArg some (by kernel_rfl))
 f206:=Tryz.func199.trans (congrArg some (by kernel_rfl))
 f210:=Tryz.func221.trans (congrArg some (by kernel_rfl))
 t3:=Tryz.underlying3
 a3:=Tryz.isAgg3
 z3:=Tryz.sizeOf3
 v3:=Tryz.zeroValue3
 t4:=Tryz.underlying4
 a4:=Tryz.isAgg4
 z4:=Tryz.sizeOf4
 v4:=Tryz.zeroValue4
 t9:=Tryz.underlying9
 a9:=Tryz.isAgg9
 z9:=Tryz.sizeOf9
 v9:=Tryz.zeroValue9
 t24:=Tryz.underlying246
 a24:=Tryz.isAgg246
 z24:=Tryz.sizeOf246
 v24:=Tryz.zeroValue246 }
open Go.RowKit in
theorem Tryz.strings_CutPrefix(s p:ByteArray)(w:World) :
  Calls Tryz.prog 213 #[.string s,.string p] w fun e w'=>e = .returned (.tuple #[.string ⟨(Lib.trimPrefix s.data.toList p.data.toList).toArray⟩,.bool (Lib.hasPrefix s.data.toList p.data.toList)])∧w'=w:=Any.strings_CutPrefix Tryz.lays103 s p w
def Tryz.lays219_ren:Go.Shelf.Ren:=⟨fun | 219=>210 | 217=>217 | 225=>218 | 224=>219 | 267=>220 | 266=>224 | 314=>225 | n=>n,fun | 9=>9 | 3=>3 | 4=>4 | 5=>5 | 46=>208 | 146=>257 | 51=>22 | n=>n,fun | 1=>0 | n=>n⟩
theorem Tryz.lays219:Go.Proofs.Lays.n219 Tryz.prog Tryz.lays219_ren:={
 mixed:=by kernel_rfl
 f217:=Tryz.func217.trans (congrArg some (by kernel_rfl))
 f219:=Tryz.func210.trans (congrArg some (by kernel_rfl))
 f224:=Tryz.func219.trans (congrArg some (by kernel_rfl))
 f225:=Tryz.func218.trans (congrArg some (by kernel_rfl))
 f266:=Tryz.func224.trans (congrArg some (by kernel_rfl))
 f267:=Tryz.func220.trans (congrArg some (by kernel_rfl))
 f314:=Tryz.func225.trans (congrArg some (by kernel_rfl))
 t3:=Tryz.underlying3
 a3:=Tryz.isAgg3
 z3:=Tryz.sizeOf3
 v3:=Tryz.zeroValue3
 t4:=Tryz.underlying4
 a4:=Tryz.isAgg4
 z4:=Tryz.sizeOf4
 v4:=Tryz.zeroValue4
 t5:=Tryz.underlying5
 a5:=Tryz.isAgg5
 z5:=Tryz.sizeOf5
 v5:=Tryz.zeroValue5
 t9:=Tryz.underlying9
 a9:=Tryz.isAgg9
 z9:=Tryz.sizeOf9
 v9:=Tryz.zeroValue9
 t46:=Tryz.underlying208
 a46:=Tryz.isAgg208
 z46:=Tryz.sizeOf208
 v46:=Tryz.zeroValue208
 t51:=Tryz.underlying22
 a51:=Tryz.isAgg22
 z51:=Tryz.sizeOf22
 v51:=Tryz.zeroValue22
 t146:=Tryz.underlying257
 a146:=Tryz.isAgg257
 z146:=Tryz.sizeOf257
 v146:=Tryz.zeroValue257
 g1:=by kernel_rfl }
open Go.RowKit Go.Lib in
theorem Tryz.stringslite_Index_one(s:ByteArray)(c:UInt8)(w:World) :
  Calls Tryz.prog 210 #[.string s,.string ⟨#[c]⟩] w fun e w'=>e = .returned (.int .i64 (Lib.indexByte s.data.toList c))∧w'=w:=Any.stringslite_Index_one Tryz.lays219 s c w
def Tryz.lays143_ren:Go.Shelf.Ren:=⟨fun | 143=>212 | 219=>210 | 217=>217 | 225=>218 | 224=>219 | 267=>220 | 266=>224 | 314=>225 | n=>n,fun | 9=>9 | 3=>3 | 4=>4 | 5=>5 | 46=>208 | 146=>257 | 51=>22 | n=>n,fun | 1=>0 | n=>n⟩
theorem Tryz.lays143:Go.Proofs.Lays.n143 Tryz.prog Tryz.lays143_ren:={
 mixed:=by kernel_rfl
 f143:=Tryz.func212.trans (congrArg some (by kernel_rfl))
 f217:=Tryz.func217.trans (congrArg some (by kernel_rfl))
 f219:=Tryz.func210.trans (congrArg some (by kernel_rfl))
 f224:=Tryz.func219.trans (congrArg some (by kernel_rfl))
 f225:=Tryz.func218.trans (congrArg some (by kernel_rfl))
 f266:=Tryz.func224.trans (congrArg some (by kernel_rfl))
 f267:=Tryz.func220.trans (congrArg some (by kernel_rfl))
 f314:=Tryz.func225.trans (congrArg some (by kernel_rfl))
 t3:=Tryz.underlying3
 a3:=Tryz.isAgg3
 z3:=Tryz.sizeOf3
 v3:=Tryz.zeroValue3
 t4:=Tryz.underlying4
 a4:=Tryz.isAgg4
 z4:=Tryz.sizeOf4
 v4:=Tryz.zeroValue4
 t5:=Tryz.underlying5
 a5:=Tryz.isAgg5
 z5:=Tryz.sizeOf5
 v5:=Tryz.zeroValue5
 t9:=Tryz.underlying9
 a9:=Tryz.isAgg9
 z9:=Tryz.sizeOf9
 v9:=Tryz.zeroValue9
 t46:=Tryz.underlying208
 a46:=Tryz.isAgg208
 z46:=Tryz.sizeOf208
 v46:=Tryz.zeroValue208
 t51:=Tryz.underlying22
 a51:=Tryz.isAgg22
 z51:=Tryz.sizeOf22
 v51:=Tryz.zeroValue22
 t146:=Tryz.underlying257
 a146:=Tryz.isAgg257
 z146:=Tryz.sizeOf257
 v146:=Tryz.zeroValue257
 g1:=by kernel_rfl }
open Go.RowKit Go.Lib in
theorem Tryz.strings_Index_one(s:ByteArray)(c:UInt8)(w:World) :
  Calls Tryz.prog 212 #[.string s,.string ⟨#[c]⟩] w fun e w'=>e = .returned (.int .i64 (Lib.indexByte s.data.toList c))∧w'=w:=Any.strings_Index_one Tryz.lays143 s c w
def Tryz.lays99_ren:Go.Shelf.Ren:=⟨fun | 99=>177 | 206=>199 | n=>n,fun | 9=>9 | 4=>4 | 3=>3 | n=>n,fun | n=>n⟩
theorem Tryz.lays99:Go.Proofs.Lays.n99 Tryz.prog Tryz.lays99_ren:={
 mixed:=by kernel_rfl
 f99:=Tryz.func177.trans (congrArg some (by kernel_rfl))
 f206:=Tryz.func199.trans (congrArg some (by kernel_rfl))
 t3:=Tryz.underlying3
 a3:=Tryz.isAgg3
 z3:=Tryz.sizeOf3
 v3:=Tryz.zeroValue3
 t4:=Tryz.underlying4
 a4:=Tryz.isAgg4
 z4:=Tryz.sizeOf4
 v4:=Tryz.zeroValue4
 t9:=Tryz.underlying9
 a9:=Tryz.isAgg9
 z9:=Tryz.sizeOf9
 v9:=Tryz.zeroValue9 }
open Go.RowKit Go.Lib in
theorem Tryz.strings_HasPrefix(s p:ByteArray)(w:World) :
  Calls Tryz.prog 177 #[.string s,.string p] w fun e w'=>e = .returned (.bool (Lib.hasPrefix s.data.toList p.data.toList))∧w'=w:=Any.strings_HasPrefix Tryz.lays99 s p w
end
end Go.Proofs
namespace Go.Proofs.YtcgibpdjfgjldaaGreatDoor.Num
open Go.ChangeShapes Go.WideShapes Go.ChangeAt Go.RowKit
theorem nrun_step(base:Nat)(D:ByteArray)(k n:Nat)(hk:k < D.size)(hd:dvN (D[k].toNat) < base) :
  nrun base (D.data.toList.drop k) n=nrun base (D.data.toList.drop (k+1)) (min (n * base+dvN (D[k].toNat)) 4294967296):=by
 rw [List.drop_eq_getElem_cons (by simpa using hk),nrun];exact if_pos hd
theorem nrun_none(base:Nat)(D:ByteArray)(k n:Nat)(hk:k < D.size)(hd:¬ dvN (D[k].toNat) < base):nrun base (D.data.toList.drop k) n=none:=by
 rw [List.drop_eq_getElem_cons (by simpa using hk),nrun];exact if_neg hd
theorem numR_nil(base:Nat)(D:ByteArray)(h:D.size = 0):numR base D.data.toList=(0,4):=by
 have:D.data.toList.length = 0:=by simpa using h
 rw [List.length_eq_zero_iff.1 this];rfl
theorem numR_none(base:Nat)(D:ByteArray)(h:D.size≠0)(hr:nrun base D.data.toList 0=none):numR base D.data.toList=(0,4):=by
 unfold numR;rw [if_neg (by intro e;apply h;have:=congrArg List.length e;simpa using this),hr]
theorem numR_some(base:Nat)(D:ByteArray)(n:Nat)(h:D.size≠0)(hr:nrun base D.data.toList 0=some n):numR base D.data.toList=if n = 4294967296 then (0,2) else (n,0):=by
 unfold numR;rw [if_neg (by intro e;apply h;have:=congrArg List.length e;simpa using this),hr]
theorem empty_true(D:ByteArray)(h:D.size = 0):D.toList.isEmpty=true:=by
 rw [ByteArray.toList_eq];have:D.data.toList.length = 0:=by simpa using h
 rw [List.length_eq_zero_iff.1 this];rfl
theorem empty_false(D:ByteArray)(h:¬ D.size = 0):D.toList.isEmpty=false:=by
 rw [ByteArray.toList_eq];cases e:D.data.toList with
 | nil=>exfalso;apply h;have:=congrArg List.length e;simpa using this
 | cons=>rfl
theorem nrun_end(base:Nat)(D:ByteArray)(n:Nat):nrun base (D.data.toList.drop D.size) n=some n:=by
 rw [List.drop_of_length_le (by simp)];rfl
theorem numC(hex:Bool)(s D:ByteArray)(w:World)(hp:Lib.hasPrefix s.data.toList [48,120]=hex)(hD:(⟨(Lib.trimPrefix s.data.toList [48,120]).toArray⟩:ByteArray)=D)(hsz:D.size≤maxLen) :
  Calls Tryz.prog 204 #[.string s] w fun e w'=>e = .returned (resN (numR (if hex then 16 else 10) D.data.toList))∧w=w':=by
 have hc:=Tryz.strings_CutPrefix s ⟨#[48,120]⟩ w;rw [show (ByteArray.mk #[48,120]).data.toList=[48,120] from rfl,hp,hD] at hc;have HC:=Hi hc;unfold maxLen at hsz;clear hc hp hD;by_cases hnil:D.size = 0
 ·have he:=empty_true D hnil;rw [numR_nil _ D hnil];clear hnil;cases hex
  all_goals
   go_enter Tryz.func204,Tryz.ntmps204;go_wp2_with fail
   refine HC.out.mono ?_;rintro e w' ⟨rfl,rfl⟩
   go_wp2
   go_ret2
   exact ⟨rfl,rfl⟩
 have hne:=empty_false D hnil;have HNE:Hid (D.size≠0):=Hi hnil;cases hex
 all_goals
  simp only [Bool.false_eq_true,if_true,if_false];go_enter Tryz.func204,Tryz.ntmps204;go_wp2_with fail
  refine HC.out.mono ?_;rintro e w' ⟨rfl,rfl⟩
  go_wp2
 ·go_loop [7,20] (fun vn vi=>∃ k n:Nat,k≤D.size∧vi = .int .i64 k∧vn = .int .u64 n∧n≤4294967296∧Hid (nrun 10 D.data.toList 0=nrun 10 (D.data.toList.drop k) n)) (fun _ vi=>D.size - (intOf vi).toNat)
  case atStart=>exact ⟨0,0,by omega,rfl,rfl,by omega,Hi rfl⟩
  case round=>
   obtain ⟨k,n,hk,rfl,rfl,hn,HI⟩:=hrel;clear hne hnil;by_cases hlt:k < D.size
   ·have hb:D[k].toNat < 256:=D[k].toNat_lt;have hdc:=digitC D[k].toNat hb;have hdl:=dvN_le D[k].toNat;by_cases hd:dvN D[k].toNat < 10
    ·have hst:=nrun_step 10 D k n hlt hd;generalize dvN D[k].toNat=d at hdc hdl hd hst;have HS:=Hi hst;have HDC:=Hi hdc;clear hst hdc;go_wp2_with (go_at_call 214;refine (HDC.out _).mono ?_;rintro e w' ⟨rfl,rfl⟩)
     go_round
     case rel=>exact ⟨k+1,min (n * 10+d) 4294967296,by omega,by go_num,by go_num,by omega,Hi (by rw [HI.out,HS.out])⟩
     case measure=>simp [intOf];omega
    ·have hst:=nrun_none 10 D k n hlt hd;rw [←HI.out] at hst;have hfin:=numR_none 10 D HNE.out hst;generalize dvN D[k].toNat=d at hdc hdl hd;have HF:=Hi hfin;have HDC:=Hi hdc;clear hst hdc hfin;go_wp2_with (go_at_call 214;refine (HDC.out _).mono ?_;rintro e w' ⟨rfl,rfl⟩)
     go_ret2
     exact ⟨by rw [HF.out];rfl,rfl⟩
   ·have:k=D.size:=by omega
    subst this;have hI:=HI.out;rw [nrun_end] at hI;have hfin:=numR_some 10 D n HNE.out hI;clear hI HI;by_cases hl:n < 4294967296
    ·rw [if_neg (by omega)] at hfin;have HF:=Hi hfin;clear hfin
     go_wp2
     go_ret2
     exact ⟨by rw [HF.out];rfl,rfl⟩
    ·have:n = 4294967296:=by omega
     subst this;rw [if_pos rfl] at hfin;have HF:=Hi hfin;clear hfin
     go_wp2
     go_ret2
     exact ⟨by rw [HF.out];rfl,rfl⟩
 ·go_loop [7,20] (fun vn vi=>∃ k n:Nat,k≤D.size∧vi = .int .i64 k∧vn = .int .u64 n∧n≤4294967296∧Hid (nrun 16 D.data.toList 0=nrun 16 (D.data.toList.drop k) n)) (fun _ vi=>D.size - (intOf vi).toNat)
  case atStart=>exact ⟨0,0,by omega,rfl,rfl,by omega,Hi rfl⟩
  case round=>
   obtain ⟨k,n,hk,rfl,rfl,hn,HI⟩:=hrel;clear hne hnil;by_cases hlt:k < D.size
   ·have hb:D[k].toNat < 256:=D[k].toNat_lt;have hdc:=digitC D[k].toNat hb;have hdl:=dvN_le D[k].toNat;by_cases hd:dvN D[k].toNat < 16
    ·have hst:=nrun_step 16 D k n hlt hd;generalize dvN D[k].toNat=d at hdc hdl hd hst;have HS:=Hi hst;have HDC:=Hi hdc;clear hst hdc;go_wp2_with (go_at_call 214;refine (HDC.out _).mono ?_;rintro e w' ⟨rfl,rfl⟩)
     go_round
     case rel=>exact ⟨k+1,min (n * 16+d) 4294967296,by omega,by go_num,by go_num,by omega,Hi (by rw [HI.out,HS.out])⟩
     case measure=>simp [intOf];omega
    ·have hst:=nrun_none 16 D k n hlt hd;rw [←HI.out] at hst;have hfin:=numR_none 16 D HNE.out hst;generalize dvN D[k].toNat=d at hdc hdl hd;have HF:=Hi hfin;have HDC:=Hi hdc;clear hst hdc hfin;go_wp2_with (go_at_call 214;refine (HDC.out _).mono ?_;rintro e w' ⟨rfl,rfl⟩)
     go_ret2
     exact ⟨by rw [HF.out];rfl,rfl⟩
   ·have:k=D.size:=by omega
    subst this;have hI:=HI.out;rw [nrun_end] at hI;have hfin:=numR_some 16 D n HNE.out hI;clear hI HI;by_cases hl:n < 4294967296
    ·rw [if_neg (by omega)] at hfin;have HF:=Hi hfin;clear hfin
     go_wp2
     go_ret2
     exact ⟨by rw [HF.out];rfl,rfl⟩
    ·have:n = 4294967296:=by omega
     subst this;rw [if_pos rfl] at hfin;have HF:=Hi hfin;clear hfin
     go_wp2
     go_ret2
     exact ⟨by rw [HF.out];rfl,rfl⟩
end Go.Proofs.YtcgibpdjfgjldaaGreatDoor.Num
