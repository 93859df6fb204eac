/- DERIVED. PaTop, PaTok, PaSt, PaSm, ShPt. By an AI agent. -/
import Derived.Test.YtdhoemlomojfaaaGreatDoorW10
import Derived.Test.YtdhoemlomojfaaaGreatDoorRows
import Derived.Test.YtdhoemlomojfaaaGreatDoorW08
import Derived.Laws.Rows
import Derived.WalkLawsBesides
import Derived.Test.YtdhoemlomojfaaaGreatDoorW01
set_option maxRecDepth 100000
set_option linter.unusedVariables false
set_option linter.unusedSimpArgs false
namespace Go.Proofs.YtdhoemlomojfaaaGreatDoor.Pa
open Lx
def pre(a:List Tr):Out→Out
 | .ok l r=>.ok (a ++ l) r
 | .bad p e=>.bad p e
theorem words_et{s:Bs}(h:(wordsL s).er = 0):Et (wordsL s).l:=by
 obtain ⟨hne,ho⟩:=words_order s h;refine ⟨(wordsL s).l.dropLast,(wordsL s).l.getLast hne,(List.dropLast_concat_getLast hne).symm,?_,fun t ht=>?_⟩
 ·have hl:=List.length_pos_iff.2 hne;have hx:(wordsL s).l[(wordsL s).l.length - 1]?=some ((wordsL s).l.getLast hne):=by
   rw [List.getLast_eq_getElem,List.getElem?_eq_getElem (by omega)]
  exact ((ho _ _ hx).2.2.1).2 (by omega)
 ·obtain ⟨j,hj,hjt⟩:=List.getElem_of_mem ht;rw [List.length_dropLast] at hj;rw [List.getElem_dropLast] at hjt;have hx:(wordsL s).l[j]?=some t:=by rw [List.getElem?_eq_getElem (by omega),hjt]
  intro hk;have:=((ho j t hx).2.2.1).1 hk;omega
theorem tells{num:Bs→Nat×Nat}{s:Bs}(h:(wordsL s).er = 0){f d a e:Nat}{nt:NT}(hp:pF num f nt d (wordsL s).l=some (.bad a e)):a≤s.length∧(e = 100∨e = 150):=by
 have hg:=pF_good num f nt d _ (words_et h);rw [hp] at hg;obtain ⟨⟨t,ht,rfl⟩,he⟩:=hg;obtain ⟨j,hj,hjt⟩:=List.getElem_of_mem ht;have:=((words_order s h).2 j t (by rw [List.getElem?_eq_getElem hj,hjt])).1;exact ⟨by omega,he⟩
def Okt(t:Tk):Prop:=(t.k = 0∧t.s=[])∨(t.k = 1∧wordB t.s=false∧∃ c r,t.s=c :: r∧letB c=true)∨(t.k = 2∧∃ c r,t.s=c :: r∧letB c=false∧numB c=true)∨(t.k = 3∧wordB t.s=true) ∨
 (t.k = 4∧(t.s=[60,60,60]∨t.s∈signs2∨∃ c,c∈signs1∧t.s=[c]))
theorem tok_okt{c:UInt8}{r:Bs}{k m:Nat}(h:tokC c r=some (k,m))(i:Nat):Okt ⟨k,(c :: r).take m,i⟩:=by
 unfold tokC at h;split at h
 ·rename_i hl;split at h
  ·rename_i hw;cases h;exact .inr (.inr (.inr (.inl ⟨rfl,by show wordB (c :: r.take _)=true;exact hw⟩)))
  ·rename_i hw;split at h
   ·cases h
   ·cases h;exact .inr (.inl ⟨rfl,by show wordB (c :: r.take _)=false;simpa using hw,c,_,rfl,hl⟩)
 ·rename_i hl;split at h
  ·rename_i hn;cases h;exact .inr (.inr (.inl ⟨rfl,c,_,rfl,by simpa using hl,hn⟩))
  ·split at h
   ·rename_i h3;cases h;exact .inr (.inr (.inr (.inr ⟨rfl,.inl h3⟩)))
   ·split at h
    ·rename_i h3;cases h;exact .inr (.inr (.inr (.inr ⟨rfl,.inr (.inl h3)⟩)))
    ·split at h
     ·rename_i h3;cases h;exact .inr (.inr (.inr (.inr ⟨rfl,.inr (.inr ⟨c,h3,rfl⟩)⟩)))
     ·cases h
theorem go_okt:∀ (f:Nat) (bs:Bs) (i n:Nat),∀ t∈(goL f bs i n).l,Okt t
 | 0,_,_,_,t,ht=>by cases ht
 | f+1,[],i,n,t,ht=>by
  have e:goL (f+1) [] i n=if n = 4000 then ⟨[],i,150⟩ else ⟨[⟨0,[],i⟩],0,0⟩:=rfl
  rw [e] at ht;split at ht
  ·cases ht
  ·cases ht with
   | head=>exact .inl ⟨rfl,rfl⟩
   | tail _ h=>cases h
 | f+1,c :: r,i,n,t,ht=>by
  rcases hk:tokC c r with _ | ⟨k,m⟩
  ·rw [goL_none hk] at ht;cases ht
  ·rw [goL_some hk] at ht;split at ht
   ·cases ht
   ·unfold Wd.cons at ht;split at ht
    ·cases ht with
     | head=>exact tok_okt hk i
     | tail _ h=>exact go_okt f _ _ _ t h
    ·exact go_okt f _ _ _ t ht
theorem words_okt(s:Bs):∀ t∈(wordsL s).l,Okt t:=by
 unfold wordsL;split
 ·intro t ht;cases ht
 ·exact go_okt _ _ _ _
def litB(b:Bs):Bool:=match b with
 | []=>false
 | c :: _=>!numB c && (wordB b || !letB c)
theorem okt_lit{t:Tk}(h:Okt t)(hb:litB t.s=true):2 < t.k:=by
 rcases h with ⟨_,h⟩ | ⟨_,hw,c,r,h,hl⟩ | ⟨_,c,r,h,hl,hn⟩ | ⟨h,_⟩ | ⟨h,_⟩
 ·rw [h] at hb;cases hb
 ·rw [h] at hb hw;simp only [litB,hw,hl,Bool.not_true,Bool.or_false,Bool.and_false] at hb;cases hb
 ·rw [h] at hb;simp only [litB,hn,Bool.not_true,Bool.false_and] at hb;cases hb
 ·omega
 ·omega
theorem isS_eq{t:Tk}(h:Okt t){b:Bs}(hb:litB b=true):isS b t=(t.s==b):=by
 unfold isS;by_cases e:t.s=b
 ·subst e;have:=okt_lit h hb;simp [this]
 ·have:(t.s==b)=false:=by simpa using e
  rw [this,Bool.and_false]
def levT(s:Bs):Nat:=if s=[124] then 1 else if s=[94] then 2 else if s=[38] then 3 else if s=[60,60]∨s=[62,62]∨s=[60,60,60] then 4 else if s=[43]∨s=[45] then 5 else 0
def kindT(s:Bs):Nat:=if levT s = 0 then 0 else if levT s = 4 then 4 else 3
theorem levT_le(s:Bs):levT s≤5:=by
 unfold levT;repeat' split
 all_goals omega
theorem lev_lit{t:Tk}(h:Okt t)(hl:levT t.s≠0):t.k = 4:=by
 have h0:t.s=[124]∨t.s=[94]∨t.s=[38]∨t.s=[60,60]∨t.s=[62,62]∨t.s=[60,60,60]∨t.s=[43]∨t.s=[45]:=by
  unfold levT at hl;by_cases h1:t.s=[124]
  ·exact .inl h1
  rw [if_neg h1] at hl;by_cases h2:t.s=[94]
  ·exact .inr (.inl h2)
  rw [if_neg h2] at hl;by_cases h3:t.s=[38]
  ·exact .inr (.inr (.inl h3))
  rw [if_neg h3] at hl;by_cases h4:t.s=[60,60]∨t.s=[62,62]∨t.s=[60,60,60]
  ·rcases h4 with h4 | h4 | h4
   ·exact .inr (.inr (.inr (.inl h4)))
   ·exact .inr (.inr (.inr (.inr (.inl h4))))
   ·exact .inr (.inr (.inr (.inr (.inr (.inl h4)))))
  rw [if_neg h4] at hl;by_cases h5:t.s=[43]∨t.s=[45]
  ·rcases h5 with h5 | h5
   ·exact .inr (.inr (.inr (.inr (.inr (.inr (.inl h5))))))
   ·exact .inr (.inr (.inr (.inr (.inr (.inr (.inr h5))))))
  rw [if_neg h5] at hl;exact absurd rfl hl
 have hb:litB t.s=true∧wordB t.s=false:=by
  rcases h0 with h | h | h | h | h | h | h | h <;> rw [h] <;> decide
 have h2:=okt_lit h hb.1;rcases h with ⟨h,_⟩ | ⟨h,_⟩ | ⟨h,_⟩ | ⟨_,h⟩ | ⟨h,_⟩
 ·omega
 ·omega
 ·omega
 ·rw [hb.2] at h;cases h
 ·exact h
theorem onS_lev{t:Tk}(h:Okt t){q:Nat}(hq:q < 5):onS q t=decide (levT t.s=q+1):=by
 unfold onS;have hc:(sOf q).contains t.s=decide (levT t.s=q+1):=by
  generalize t.s=s;obtain rfl | rfl | rfl | rfl | rfl:q = 0∨q = 1∨q = 2∨q = 3∨q = 4:=by omega
  all_goals
   by_cases h0:s=[124]
   ·subst h0;decide
   by_cases h1:s=[94]
   ·subst h1;decide
   by_cases h2:s=[38]
   ·subst h2;decide
   by_cases h3:s=[60,60]
   ·subst h3;decide
   by_cases h4:s=[62,62]
   ·subst h4;decide
   by_cases h5:s=[60,60,60]
   ·subst h5;decide
   by_cases h6:s=[43]
   ·subst h6;decide
   by_cases h7:s=[45]
   ·subst h7;decide
   simp [levT,sOf,h0,h1,h2,h3,h4,h5,h6,h7]
 rw [hc];by_cases he:levT t.s=q+1
 ·have:=lev_lit h (by omega);simp [he,this]
 ·simp [he]
end Go.Proofs.YtdhoemlomojfaaaGreatDoor.Pa
namespace Go.Proofs.YtdhoemlomojfaaaGreatDoor.Pa
open Go Go.ChangeShapes Go.WideShapes Go.ChangeAt Go.RowKit Lx Args
structure Gt(l:List Tk):Prop where
 et:Et l
 ok:∀ t∈l,Okt t∧t.s.length≤20000
 few:l.length≤4000
theorem Gt.cons{l:List Tk}(h:Gt l):∃ t r,l=t :: r:=by
 cases l with
 | nil=>exact absurd h.et et_nil
 | cons t r=>exact ⟨t,r,rfl⟩
theorem Gt.tail{t:Tk}{r:List Tk}(h:Gt (t :: r))(ht:t.k≠0):Gt r:=
 ⟨et_tail h.et ht,fun u hu=>h.ok u (List.mem_cons_of_mem _ hu),by have:=h.few;simp at this;omega⟩
theorem Gt.suf{l r:List Tk}(h:Gt l)(he:Et r)(hs:r <:+ l):Gt r:=
 ⟨he,fun u hu=>h.ok u (hs.subset hu),Nat.le_trans hs.length_le h.few⟩
theorem Gt.hd{t:Tk}{r:List Tk}(h:Gt (t :: r)):Okt t:=(h.ok t (List.mem_cons_self ..)).1
structure PS(w:World)(bp:Nat)(l:List Tk)(d:Nat):Prop where
 ex:∃ b o c,b < bp∧Blk w bp 132 #[.slice (some ⟨b,o,none⟩) l.length c,.int .i64 (d:Int)]∧Lies w (some ⟨b,o,none⟩) (l.flatMap tkC)∧l.length≤c∧c≤maxLen
abbrev UB(bp:Nat)(w w':World):Prop:=Upd (fun b=>b=bp) w w'
theorem PS.lt{w:World}{bp:Nat}{l:List Tk}{d:Nat}(h:PS w bp l d):bp < w.heap.size:=by
 obtain ⟨b,o,c,_,hb,_⟩:=h;exact hb.lt
theorem Blk.c2{w:World}{g:Nat}{t:TypeId}{a b:Value}(h:Blk w g t #[a,b]):w.cell? ⟨g,0,none⟩=some a∧w.cell? ⟨g,1,none⟩=some b∧w.frozen? ⟨g,0,none⟩=false∧w.frozen? ⟨g,1,none⟩=false:=⟨h.cell 0,h.cell 1,h.frozen 0,h.frozen 1⟩
theorem Blk.c3{w:World}{g:Nat}{t:TypeId}{a b c:Value}(h:Blk w g t #[a,b,c]):w.cell? ⟨g,0,none⟩=some a∧w.cell? ⟨g,1,none⟩=some b∧w.cell? ⟨g,2,none⟩=some c∧w.frozen? ⟨g,0,none⟩=false∧w.frozen? ⟨g,1,none⟩=false∧w.frozen? ⟨g,2,none⟩=false:=
 ⟨h.cell 0,h.cell 1,h.cell 2,h.frozen 0,h.frozen 1,h.frozen 2⟩
theorem Blk.c6{w:World}{g:Nat}{t:TypeId}{a b c d e f:Value}(h:Blk w g t #[a,b,c,d,e,f]):(w.cell? ⟨g,0,none⟩=some a∧w.cell? ⟨g,1,none⟩=some b∧w.cell? ⟨g,2,none⟩=some c∧w.cell? ⟨g,3,none⟩=some d∧w.cell? ⟨g,4,none⟩=some e∧w.cell? ⟨g,5,none⟩=some f) ∧
  w.frozen? ⟨g,0,none⟩=false∧w.frozen? ⟨g,1,none⟩=false∧w.frozen? ⟨g,2,none⟩=false∧w.frozen? ⟨g,3,none⟩=false∧w.frozen? ⟨g,4,none⟩=false∧w.frozen? ⟨g,5,none⟩=false:=
 ⟨⟨h.cell 0,h.cell 1,h.cell 2,h.cell 3,h.cell 4,h.cell 5⟩,h.frozen 0,h.frozen 1,h.frozen 2,h.frozen 3,h.frozen 4,h.frozen 5⟩
theorem PS.below{w w':World}{bp:Nat}{l:List Tk}{d:Nat}(h:PS w bp l d)(hb:Below w.heap.size w w'):PS w' bp l d:=by
 obtain ⟨b,o,c,hn,h1,h2,h3⟩:=h;exact ⟨b,o,c,hn,h1.below hb h1.lt,h2.below hb,h3⟩
theorem PS.far{X:Nat→Prop}{w w':World}{bp:Nat}{l:List Tk}{d:Nat}(h:PS w bp l d)(hu:Upd X w w')(hX:∀ b,X b→bp < b):PS w' bp l d:=by
 obtain ⟨b,o,c,hn,h1,h2,h3⟩:=h;exact ⟨b,o,c,hn,h1.upd hu fun hx=>by have:=hX bp hx;omega,hu.lies h2 fun b' o' e _ hx=>by cases e;have:=hX _ hx;omega,h3⟩
theorem flat_cons(t:Tk)(r:List Tk):(t :: r).flatMap tkC = .int .i64 (t.k:Int) :: .string ⟨t.s.toArray⟩ :: .int .i64 (t.at_:Int) :: r.flatMap tkC:=rfl
theorem PS.head{w:World}{bp:Nat}{t:Tk}{r:List Tk}{d:Nat}(h:PS w bp (t :: r) d):∃ b o c,b < bp∧r.length+1≤c∧c≤maxLen∧w.cell? ⟨bp,0,none⟩=some (.slice (some ⟨b,o,none⟩) (r.length+1) c)∧w.cell? ⟨bp,1,none⟩=some (.int .i64 (d:Int)) ∧
  w.frozen? ⟨bp,0,none⟩=false∧w.frozen? ⟨bp,1,none⟩=false ∧
  w.cell? ⟨b,o,none⟩=some (.int .i64 (t.k:Int))∧w.cell? ⟨b,o+1,none⟩=some (.string ⟨t.s.toArray⟩)∧w.cell? ⟨b,o+2,none⟩=some (.int .i64 (t.at_:Int)):=by
 obtain ⟨b,o,c,hn,h1,h2,h3,h4⟩:=h;rw [flat_cons] at h2;have f0:=h2 0 _ rfl;have f1:=h2 1 _ rfl;have f2:=h2 2 _ rfl;obtain ⟨a0,e0,f0⟩:=f0;obtain ⟨a1,e1,f1⟩:=f1;obtain ⟨a2,e2,f2⟩:=f2;cases e0;cases e1;cases e2;rw [Args.add_plain] at f0 f1 f2;exact ⟨b,o,c,hn,h3,h4,h1.cell 0,h1.cell 1,h1.frozen 0,h1.frozen 1,f0,f1,f2⟩
theorem PS.take{w:World}{bp:Nat}{t:Tk}{r:List Tk}{d b o c:Nat}(h:PS w bp (t :: r) d)(hc:w.cell? ⟨bp,0,none⟩=some (.slice (some ⟨b,o,none⟩) (r.length+1) c)) :
  PS (w.setCell ⟨bp,0,none⟩ (.slice (some ⟨b,o+3,none⟩) r.length (c - 1))) bp r d:=by
 obtain ⟨b',o',c',hn,h1,h2,h3,h4⟩:=h;have e:=h1.cell 0;rw [hc] at e;simp at e;obtain ⟨⟨rfl,rfl⟩,rfl⟩:=e;simp only [List.length_cons] at h3;refine ⟨b,o+3,c - 1,hn,?_,?_,by omega,by omega⟩
 ·exact h1.set 0 _
 ·intro j u hj;refine ⟨_,rfl,?_⟩;rw [Args.add_plain];have h5:=h2 (j+3) u (by rw [flat_cons];simpa using hj);obtain ⟨a,ea,h5⟩:=h5;cases ea;rw [Args.add_plain] at h5;rw [show o+3+j=o+(j+3) by omega,←h5];exact World.cell?_of_block (a:=⟨b,o+(j+3),none⟩) (Below.heap_setCell w _ _ b (Nat.ne_of_lt hn))
theorem PS.deep{w:World}{bp:Nat}{l:List Tk}{d:Nat}(h:PS w bp l d)(d':Nat):PS (w.setCell ⟨bp,1,none⟩ (.int .i64 (d':Int))) bp l d':=by
 obtain ⟨b,o,c,hn,h1,h2,h3⟩:=h;refine ⟨b,o,c,hn,h1.set 1 _,?_,h3⟩;intro j u hj;obtain ⟨a,ea,h5⟩:=h2 j u hj;cases ea;refine ⟨_,rfl,?_⟩;rw [Args.add_plain] at h5 ⊢;rw [←h5];exact World.cell?_of_block (a:=⟨b,o+j,none⟩) (Below.heap_setCell w _ _ b (Nat.ne_of_lt hn))
section
theorem szTk:(Tryz.prog.info? 134).map (·.size)=some 3:=by kernel_rfl
theorem szNd:(Tryz.prog.info? 62).map (·.size)=some 6:=by kernel_rfl
theorem szWr:(Tryz.prog.info? 128).map (·.size)=some 2:=by kernel_rfl
theorem fTk0(k a:Int)(s:ByteArray)(w:World):(Instr.field 134 (.agg #[.int .i64 k,.string s,.int .i64 a]) 0).run Tryz.prog w = .ok (.int .i64 k) w:=by kernel_rfl
theorem fTk1(k a:Int)(s:ByteArray)(w:World):(Instr.field 134 (.agg #[.int .i64 k,.string s,.int .i64 a]) 1).run Tryz.prog w = .ok (.string s) w:=by kernel_rfl
theorem fTk2(k a:Int)(s:ByteArray)(w:World):(Instr.field 134 (.agg #[.int .i64 k,.string s,.int .i64 a]) 2).run Tryz.prog w = .ok (.int .i64 a) w:=by kernel_rfl
attribute [local go_sem] fTk0 fTk1 fTk2
theorem resTk{fn:Func}{p:Tmp}(h:fn.results = #[.cell p 134]){tmps:Array Value}{W:World}{g:Nat}{t:TypeId}{cs:Array Value}(hp:tmps.getD p undef = .pointer (some ⟨g,0,none⟩))(hg:Blk W g t cs)(hs:some 3=some cs.size) :
  (results fn tmps).run Tryz.prog W = .ok (.agg cs) W:=results_cell_row h tmps W g t cs (0,0) _ hp hg Tryz.underlying134 rfl (szTk.trans hs)
theorem resNd{fn:Func}{p:Tmp}(h:fn.results = #[.cell p 62]){tmps:Array Value}{W:World}{g:Nat}{t:TypeId}{cs:Array Value}(hp:tmps.getD p undef = .pointer (some ⟨g,0,none⟩))(hg:Blk W g t cs)(hs:some 6=some cs.size) :
  (results fn tmps).run Tryz.prog W = .ok (.agg cs) W:=results_cell_row h tmps W g t cs (0,0) _ hp hg Tryz.underlying62 rfl (szNd.trans hs)
theorem resWr{fn:Func}{p:Tmp}(h:fn.results = #[.cell p 128]){tmps:Array Value}{W:World}{g:Nat}{t:TypeId}{cs:Array Value}(hp:tmps.getD p undef = .pointer (some ⟨g,0,none⟩))(hg:Blk W g t cs)(hs:some 2=some cs.size) :
  (results fn tmps).run Tryz.prog W = .ok (.agg cs) W:=results_cell_row h tmps W g t cs (0,0) _ hp hg Tryz.underlying128 rfl (szWr.trans hs)
theorem Blk.put2{w:World}{g:Nat}{t:TypeId}{a b:Value}(h:Blk w g t #[a,b])(a' b':Value):Blk ((w.setCell ⟨g,0,none⟩ a').setCell ⟨g,1,none⟩ b') g t #[a',b']:=(h.set 0 a').set 1 b'
theorem Blk.put3{w:World}{g:Nat}{t:TypeId}{a b c:Value}(h:Blk w g t #[a,b,c])(a' b' c':Value):Blk (((w.setCell ⟨g,0,none⟩ a').setCell ⟨g,1,none⟩ b').setCell ⟨g,2,none⟩ c') g t #[a',b',c']:=((h.set 0 a').set 1 b').set 2 c'
def put6(w:World)(g:Nat)(a b c d e f:Value):World:=(((((w.setCell ⟨g,0,none⟩ a).setCell ⟨g,1,none⟩ b).setCell ⟨g,2,none⟩ c).setCell ⟨g,3,none⟩ d).setCell ⟨g,4,none⟩ e).setCell ⟨g,5,none⟩ f
theorem Blk.put6{w:World}{g:Nat}{t:TypeId}{a b c d e f:Value}(h:Blk w g t #[a,b,c,d,e,f])(a' b' c' d' e' f':Value):Blk (put6 w g a' b' c' d' e' f') g t #[a',b',c',d',e',f']:=(((((h.set 0 a').set 1 b').set 2 c').set 3 d').set 4 e').set 5 f'
theorem put6_far{w:World}{g g0:Nat}{t:TypeId}{cs:Array Value}(h:Blk w g t cs)(hg:g≠g0)(a b c d e f:Value):Blk (put6 w g0 a b c d e f) g t cs:=(((((h.far (p:=⟨g0,0,none⟩) hg a).far (p:=⟨g0,1,none⟩) hg b).far (p:=⟨g0,2,none⟩) hg c).far (p:=⟨g0,3,none⟩) hg d).far (p:=⟨g0,4,none⟩) hg e).far (p:=⟨g0,5,none⟩) hg f
theorem put6_upd{X:Nat→Prop}{w0 w:World}{g:Nat}(h:Upd X w0 w)(hg:g < w0.heap.size→X g)(a b c d e f:Value):Upd X w0 (put6 w g a b c d e f):=
 (((((h.setCell (p:=⟨g,0,none⟩) hg a).setCell (p:=⟨g,1,none⟩) hg b).setCell (p:=⟨g,2,none⟩) hg c).setCell (p:=⟨g,3,none⟩) hg d).setCell (p:=⟨g,4,none⟩) hg e).setCell (p:=⟨g,5,none⟩) hg f
theorem next(w:World)(bp d:Nat)(t:Tk)(r:List Tk)(hp:PS w bp (t :: r) d) :
  Calls Tryz.prog 69 #[.pointer (some ⟨bp,0,none⟩)] w fun e w'=>e = .returned (.agg #[.int .i64 (t.k:Int),.string ⟨t.s.toArray⟩,.int .i64 (t.at_:Int)])∧Below w.heap.size w w':=by
 obtain ⟨b,o,c,hn,hc1,hc2,f0,f1,f2,f3,f4,f5,f6⟩:=hp.head;have hlt:=hp.lt;have hbl:b < w.heap.size:=World.block_lt_of_cell? w _ f4;have HN:=Hi hn;clear hn hp;go_enter Tryz.func69,Tryz.ntmps69;go_wp2_with fail
 refine bodyPost_ret (resTk rfl rfl (Blk.new _ _ _) rfl) rfl ⟨rfl,?_⟩;exact (Below.refl _ _).alloc (Nat.le_refl _) _
theorem below_UB{bp:Nat}{w w':World}(h:Below w.heap.size w w'):UB bp w w':=Upd.of_below h _
theorem here(w:World)(bp d:Nat)(t:Tk)(r:List Tk)(er:Int)(hp:PS w bp (t :: r) d) :
  Calls Tryz.prog 70 #[.pointer (some ⟨bp,0,none⟩),.int .i64 er] w fun e w'=>e = .returned (.agg #[.int .i64 (t.at_:Int),.int .i64 er])∧Below w.heap.size w w':=by
 obtain ⟨w0,hw0⟩:∃ w0,w.alloc (.cells #[.int .i64 0,.int .i64 0] 128)=w0:=⟨_,rfl⟩;have hb0:Below w.heap.size w w0:=by rw [←hw0];exact (Below.refl _ _).alloc (Nat.le_refl _) _
 have hB:Blk w0 w.heap.size 128 #[.int .i64 0,.int .i64 0]:=by rw [←hw0];exact Blk.new _ _ _
 have HN:=Hi (next w0 bp d t r (hp.below hb0));have HB0:=Hi hb0;have HB:=Hi hB;have HW:=Hi hw0;clear hb0 hB hp hw0;go_enter Tryz.func70,Tryz.ntmps70;go_wp2_with fail
 rw [HW.out];refine HN.out.mono ?_;rintro e w1 ⟨rfl,hb1⟩;have hlt:=HB.out.lt;have h1:Blk w1 w.heap.size 128 #[.int .i64 0,.int .i64 0]:=HB.out.below hb1 hlt;have c0:w1.cell? ⟨w.heap.size,0,none⟩=some (.int .i64 0):=h1.cell 0;have c1:w1.cell? ⟨w.heap.size,1,none⟩=some (.int .i64 0):=h1.cell 1;have z0:=h1.frozen 0;have z1:=h1.frozen 1;have H1:=Hi h1;have HB1:=Hi (HB0.out.trans (hb1.mono HB0.out.size));clear h1 hb1;go_wp2_with fail
 refine bodyPost_ret (resWr rfl rfl (Blk.put2 H1.out _ _) rfl) rfl ⟨rfl,?_⟩;exact (HB1.out.setCell (Nat.le_refl _) _).setCell (Nat.le_refl _) _
end
end Go.Proofs.YtdhoemlomojfaaaGreatDoor.Pa
namespace Go.Proofs.YtdhoemlomojfaaaGreatDoor.Sh
open Go Go.ChangeShapes Go.WideShapes Go.ChangeAt Go.RowKit Lx Args Pa
mutual
theorem TIz.below{q:Prop}{w w':World}(hb:Below w.heap.size w w'):∀ {z:Tz} {cs:List Value},TIc q w z cs→TIc q w' z cs
 | .mk k a s n ps l,cs,h=>by
  unfold TIc at h ⊢;obtain ⟨A,cA,B,cB,h1,h2,h3,h9,css,h10,h11,h12⟩:=h;exact ⟨A,cA,B,cB,h1,h2,h3,h9.below hb,css,h10.below hb,TsIz.below hb h11,h12⟩
theorem TsIz.below{q:Prop}{w w':World}(hb:Below w.heap.size w w'):∀ {l:List Tz} {css:List (List Value)},TsIc q w l css→TsIc q w' l css
 | [],_,h=>by unfold TsIc at h ⊢;exact h
 | x :: l,_,h=>by
  unfold TsIc at h ⊢;obtain ⟨c,r,h1,h2,h3⟩:=h;exact ⟨c,r,h1,TIz.below hb h2,TsIz.below hb h3⟩
end
mutual
theorem tIz_of{N:Nat→Prop}{w:World}:∀ {x:Tr} {cs:List Value},TIn N w x cs→TIc True w (embz x) cs
 | .mk k a s n ps l,cs,h=>by
  unfold TIn at h;obtain ⟨A,cA,B,cB,rfl,h1,h2,h3,_,css,h4,_,h5⟩:=h;unfold embz TIc;have hl:(embs l).length=l.length:=embs_len l;exact ⟨A,cA,B,cB,by rw [hl];rfl,by rw [hl];exact Nat.le_trans h1.few (by decide),Nat.le_trans h2.few (by decide),h3,css,h4,tsIz_of h5,fun _=>⟨by rw [hl];exact ⟨h1.le,h1.cap⟩,h2.le,h2.cap⟩⟩
theorem tsIz_of{N:Nat→Prop}{w:World}:∀ {l:List Tr} {css:List (List Value)},TsIn N w l css→TsIc True w (embs l) css
 | [],_,h=>by unfold TsIn at h;unfold embs TsIc;exact h
 | x :: l,_,h=>by
  unfold TsIn at h;obtain ⟨c,r,rfl,h2,h3⟩:=h;unfold embs TsIc;exact ⟨c,r,rfl,tIz_of h2,tsIz_of h3⟩
end
theorem tIz_cells{q:Prop}{w:World}{z:Tz}{cs:List Value}(h:TIc q w z cs):∃ k a s n A la cA B lb cB,cs=nzC k a s n A la cA B lb cB:=by
 cases z;unfold TIc at h;obtain ⟨A,cA,B,cB,rfl,_⟩:=h;exact ⟨_,_,_,_,_,_,_,_,_,_,rfl⟩
theorem tsIz_at{q:Prop}{w:World}:∀ {l:List Tz} {css:List (List Value)},TsIc q w l css→∀ (i:Nat) (x:Tz),l[i]?=some x→∃ c,TIc q w x c∧∀ j,j < 6→css.flatten[i * 6+j]?=c[j]?
 | [],_,_,i,x,hx=>by simp at hx
 | y :: l,_,h,i,x,hx=>by
  unfold TsIc at h;obtain ⟨c,r,rfl,h2,h3⟩:=h;have h5:c.length = 6:=by obtain ⟨_,_,_,_,_,_,_,_,_,_,rfl⟩:=tIz_cells h2;rfl
  cases i with
  | zero=>
   have:y=x:=by simpa using hx
   subst this;refine ⟨c,h2,fun j hj=>?_⟩;rw [List.flatten_cons,List.getElem?_append_left (by omega)]
   congr 1
   omega
  | succ i=>
   obtain ⟨c',h6,h7⟩:=tsIz_at h3 i x (by simpa using hx);refine ⟨c',h6,fun j hj=>?_⟩;rw [List.flatten_cons,List.getElem?_append_right (by omega),←h7 j hj]
   congr 1
   omega
theorem partz_at{q:Prop}{w:World}{l:List Tz}{css:List (List Value)}{A:Option Addr}(hL:Lies w A css.flatten)(hT:TsIc q w l css){i:Nat}{y:Tz}(h:l[i]?=some y) :
  ∃ b o k a s n A' la cA B lb cB,A=some ⟨b,o,none⟩∧TIc q w y (nzC k a s n A' la cA B lb cB)∧b < w.heap.size∧w.cell? ⟨b,o+i * 6,none⟩=some (.int .i64 k)∧w.cell? ⟨b,o+i * 6+1,none⟩=some (.string ⟨s.toArray⟩) ∧
   w.cell? ⟨b,o+i * 6+2,none⟩=some (.int .u32 (n:Int))∧w.cell? ⟨b,o+i * 6+3,none⟩=some (.int .i64 a)∧w.cell? ⟨b,o+i * 6+4,none⟩=some (.slice A' la cA)∧w.cell? ⟨b,o+i * 6+5,none⟩=some (.slice B lb cB):=by
 obtain ⟨c,h1,h2⟩:=tsIz_at hT i y h;obtain ⟨k,a,s,n,A',la,cA,B,lb,cB,rfl⟩:=tIz_cells h1;have g0:=h2 0 (by omega);have g1:=h2 1 (by omega);have g2:=h2 2 (by omega);have g3:=h2 3 (by omega);have g4:=h2 4 (by omega);have g5:=h2 5 (by omega);obtain ⟨b,o,rfl,hb,hc⟩:=hL.at_ (j:=i * 6+0) (g0.trans rfl);refine ⟨b,o,k,a,s,n,A',la,cA,B,lb,cB,rfl,h1,hb,hc _ _ (g0.trans rfl),?_,?_,?_,?_,?_⟩
 ·rw [Nat.add_assoc];exact hc _ _ (g1.trans rfl)
 ·rw [Nat.add_assoc];exact hc _ _ (g2.trans rfl)
 ·rw [Nat.add_assoc];exact hc _ _ (g3.trans rfl)
 ·rw [Nat.add_assoc];exact hc _ _ (g4.trans rfl)
 ·rw [Nat.add_assoc];exact hc _ _ (g5.trans rfl)
theorem tIz_parts{q:Prop}{w:World}{k1 a1:Int}{n1:Nat}{s1:Bs}{ps:List Bs}{l:List Tz}{k a s n A la cA B lb cB}(h:TIc q w (.mk k1 a1 s1 n1 ps l) (nzC k a s n A la cA B lb cB)) :
  k=k1∧s=s1∧n=n1∧a=a1∧la=l.length∧lb=ps.length∧l.length≤maxLen∧ps.length≤maxLen∧Lies w B (ps.map strV)∧∃ css,Lies w A css.flatten∧TsIc q w l css:=by
 unfold TIc at h;obtain ⟨A1,cA1,B1,cB1,h1,h2,h3,h9,css,h10,h11,_⟩:=h;unfold nzC at h1;simp only [List.cons.injEq,Value.int.injEq,Value.slice.injEq,Value.string.injEq,true_and,and_true] at h1;obtain ⟨e1,e2,e3,e4,⟨rfl,rfl,rfl⟩,rfl,rfl,rfl⟩:=h1;refine ⟨e1,?_,Int.ofNat.inj e3,e4,rfl,rfl,h2,h3,h9,css,h10,h11⟩;have:=congrArg (fun b:ByteArray=>b.data.toList) e2;simpa using this
theorem tIz_cap{w:World}{k1 a1:Int}{n1:Nat}{s1:Bs}{ps:List Bs}{l:List Tz}{k a s n A la cA B lb cB}(h:TIc True w (.mk k1 a1 s1 n1 ps l) (nzC k a s n A la cA B lb cB)):l.length≤cA∧cA≤maxLen:=by
 unfold TIc at h;obtain ⟨A1,cA1,B1,cB1,h1,_,_,_,css,_,_,h12⟩:=h;unfold nzC at h1;simp only [List.cons.injEq,Value.slice.injEq,true_and,and_true] at h1;obtain ⟨_,_,_,_,⟨_,_,rfl⟩,_⟩:=h1;exact (h12 trivial).1
theorem tIz_pcap{w:World}{k1 a1:Int}{n1:Nat}{s1:Bs}{ps:List Bs}{l:List Tz}{k a s n A la cA B lb cB}(h:TIc True w (.mk k1 a1 s1 n1 ps l) (nzC k a s n A la cA B lb cB)):ps.length≤cB∧cB≤maxLen:=by
 unfold TIc at h;obtain ⟨A1,cA1,B1,cB1,h1,_,_,_,css,_,_,h12⟩:=h;unfold nzC at h1;simp only [List.cons.injEq,Value.slice.injEq,true_and,and_true] at h1;obtain ⟨_,_,_,_,_,_,_,rfl⟩:=h1;exact (h12 trivial).2
mutual
theorem tIz_weak{q:Prop}{w:World}:∀ {z:Tz} {cs:List Value},TIc q w z cs→TIz w z cs
 | .mk k a s n ps l,cs,h=>by
  unfold TIc at h ⊢;obtain ⟨A,cA,B,cB,h1,h2,h3,h9,css,h10,h11,_⟩:=h;exact ⟨A,cA,B,cB,h1,h2,h3,h9,css,h10,tsIz_weak h11,fun h=>h.elim⟩
theorem tsIz_weak{q:Prop}{w:World}:∀ {l:List Tz} {css:List (List Value)},TsIc q w l css→TsIz w l css
 | [],_,h=>by unfold TsIc at h ⊢;exact h
 | x :: l,_,h=>by
  unfold TsIc at h ⊢;obtain ⟨c,r,h1,h2,h3⟩:=h;exact ⟨c,r,h1,tIz_weak h2,tsIz_weak h3⟩
end
theorem size_memz{x:Tz}{k a:Int}{n:Nat}{s:Bs}{ps:List Bs}{l:List Tz}{i:Nat}(h:l[i]?=some x):SizeOf.sizeOf x < SizeOf.sizeOf (Tz.mk k a s n ps l):=by
 have h1:=List.sizeOf_lt_of_mem (List.mem_of_getElem? h);simp only [Tz.mk.sizeOf_spec];omega
end Go.Proofs.YtdhoemlomojfaaaGreatDoor.Sh
