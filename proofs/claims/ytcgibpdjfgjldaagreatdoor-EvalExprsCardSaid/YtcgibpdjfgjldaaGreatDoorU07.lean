/- DERIVED. FlMem, Math, Word, Walks, Shift, Shift2, FlJo, HeldTail, FlNu, FlFi, LxRes. By an AI agent. -/
import Derived.Test.YtcgibpdjfgjldaaGreatDoorU06
import Derived.Laws.BitsLemmas
import Derived.Laws.Bits64b
import Derived.Deep.QuietTactic
import Derived.Outline
import Derived.Deep.Cut
import Derived.Carry
import Derived.Deep.RegionHeld
set_option maxRecDepth 100000
set_option maxHeartbeats 4000000
set_option linter.unusedVariables false
set_option linter.unusedSimpArgs false
namespace Go.Proofs.YtcgibpdjfgjldaaGreatDoor
namespace Fl
open Go Go.ChangeShapes Go.WideShapes Go.ChangeAt Go.RowKit Lx Args Pa Sh Go.Proofs.YtcgibpdjfgjldaaGreatDoor.Nm
noncomputable def Cod.of {α:Type} (enc:α->Value) (dat:α->DataW Unit) (he:∀ a b,enc a=enc b->a=b) (hd:∀ a b,dat a=dat b->a=b):Cod α where
 enc:=enc
 dat:=dat
 rd:=fun v=>@dite _ (∃ a,enc a=v) (Classical.propDecidable _) (fun h=>some (dat h.choose,[])) fun _=>none
 rd_enc:=fun a=>by
  have h:∃ b,enc b=enc a:=⟨a,rfl⟩;rw [dif_pos h,he _ _ h.choose_spec]
 inv:=fun v a ps h=>by
  by_cases hv:∃ b,enc b=v
  ·rw [dif_pos hv] at h;have h1:dat hv.choose=dat a:=by
    have:=Option.some.inj h;exact congrArg (·.1) this
   rw [<-hd _ _ h1];exact hv.choose_spec.symm
  ·rw [dif_neg hv] at h;cases h
def loN(m:Option (BitVec 32)):Int:=((m.getD 0).toNat:Int)
def wkV(m:Wk):Value:=.agg #[.bool m.sec,.bool m.loo.isSome,.int .u32 (loN m.loo)]
def wkD(m:Wk):DataW Unit:=.agg [.lit (.bool m.sec),.lit (.bool m.loo.isSome),.lit (.int .u32 (loN m.loo))]
theorem q8C{a b:Option (BitVec 32)}(h1:a.isSome=b.isSome)(h2:loN a=loN b):a=b:=by
 cases a with
 | none=>cases b with
  | none=>rfl
  | some y=>cases h1
 | some x=>cases b with
  | none=>cases h1
  | some y=>
   have:x.toNat=y.toNat:=Int.ofNat.inj h2;rw [BitVec.eq_of_toNat_eq this]
noncomputable def codW:Cod Wk:=Cod.of wkV wkD (fun a b h=>by
  obtain ⟨s,l⟩:=a;obtain ⟨s',l'⟩:=b;simp only [wkV,Value.agg.injEq,Array.mk.injEq,List.cons.injEq,Value.bool.injEq,Value.int.injEq,true_and,and_true] at h;obtain ⟨rfl,h1,h2⟩:=h;rw [q8C h1 h2]) fun a b h=>by
  obtain ⟨s,l⟩:=a;obtain ⟨s',l'⟩:=b;simp only [wkD,DataW.agg.injEq,List.cons.injEq,DataW.lit.injEq,Lit.bool.injEq,Lit.int.injEq,true_and,and_true] at h;obtain ⟨rfl,h1,h2⟩:=h;rw [q8C h1 h2]
structure Nd where
 k:Int
 a:Int
 s:Bs
 n:Nat
 A:Option Addr
 la:Nat
 cA:Nat
 B:Option Addr
 lb:Nat
 cB:Nat
def ndV(d:Nd):Value:=nzA d.k d.a d.s d.n d.A d.la d.cA d.B d.lb d.cB
def natD(n:Nat):DataW Unit:=.lit (.int .i64 (n:Int))
def adD:Option Addr->DataW Unit
 | none=>.nil
 | some ⟨b,o,none⟩=>.agg [natD b,natD o]
 | some ⟨b,o,some p⟩=>.agg [natD b,natD o,natD p]
theorem q0G{a b:Nat}(h:natD a=natD b):a=b:=by
 simp only [natD,DataW.lit.injEq,Lit.int.injEq,true_and] at h;omega
theorem q6a:∀ {A B:Option Addr},adD A=adD B->A=B
 | none,none,_=>rfl
 | some ⟨b,o,none⟩,none,h=>VZ
 | some ⟨b,o,some p⟩,none,h=>VZ
 | none,some ⟨b,o,none⟩,h=>VZ
 | none,some ⟨b,o,some p⟩,h=>VZ
 | some ⟨b,o,none⟩,some ⟨b',o',none⟩,h=>by
  simp only [adD,DataW.agg.injEq,List.cons.injEq,and_true] at h;rw [q0G h.1,q0G h.2]
 | some ⟨b,o,none⟩,some ⟨b',o',some p'⟩,h=>VZ
 | some ⟨b,o,some p⟩,some ⟨b',o',none⟩,h=>VZ
 | some ⟨b,o,some p⟩,some ⟨b',o',some p'⟩,h=>by
  simp only [adD,DataW.agg.injEq,List.cons.injEq,and_true] at h;rw [q0G h.1,q0G h.2.1,q0G h.2.2]
def ndD(d:Nd):DataW Unit:=.agg [.lit (.int .i64 d.k),.lit (.int .i64 d.a),.lit (.string d.s),natD d.n,adD d.A,natD d.la,natD d.cA,adD d.B,natD d.lb,natD d.cB]
noncomputable def codN:Cod Nd:=Cod.of ndV ndD (fun a b h=>by
  obtain ⟨k,a,s,n,A,la,cA,B,lb,cB⟩:=a;obtain ⟨k',a',s',n',A',la',cA',B',lb',cB'⟩:=b;simp only [ndV,Value.agg.injEq,Array.mk.injEq,List.cons.injEq,Value.string.injEq,Value.slice.injEq,Value.int.injEq,true_and,and_true] at h;obtain ⟨rfl,h1,h2,rfl,⟨rfl,rfl,rfl⟩,rfl,rfl,rfl⟩:=h;have e1:s=s':=by
   have:=congrArg (fun b:ByteArray=>b.data.toList) h1;simpa using this
  have e2:n=n':=V0;rw [e1,e2]) fun a b h=>by
  obtain ⟨k,a,s,n,A,la,cA,B,lb,cB⟩:=a;obtain ⟨k',a',s',n',A',la',cA',B',lb',cB'⟩:=b;simp only [ndD,DataW.agg.injEq,List.cons.injEq,DataW.lit.injEq,Lit.int.injEq,Lit.string.injEq,true_and,and_true] at h;obtain ⟨rfl,rfl,rfl,h1,h2,h3,h4,h5,h6,h7⟩:=h;rw [q0G h1,q6a h2,q0G h3,q0G h4,q6a h5,q0G h6,q0G h7]
/-! The maps' runs. -/
abbrev zWk:Wk:=⟨false,none⟩
abbrev zNd:Nd:=⟨0,0,[],0,none,0,0,none,0,0⟩
theorem zFa(w:World):(zeroValue 180).run Tryz.prog w = .ok (codW.enc zWk) w:=by
 show _=Result.ok (wkV zWk) w;kernel_rfl
theorem zNo(w:World):(zeroValue 26).run Tryz.prog w = .ok (codN.enc zNd) w:=by
 show _=Result.ok (ndV zNd) w;kernel_rfl
theorem uFa:Tryz.prog.underlying 116=some (.map 9 180):=V1
theorem uFn:Tryz.prog.underlying 73=some (.map 9 26):=V1
def wkAt(kn:Kw)(s:Bs):Wk:=(kn s).getD zWk
theorem wkAt_lo(kn:Kw)(s:Bs):(wkAt kn s).loo=looB kn s:=by
 unfold wkAt looB;cases kn s <;> rfl
theorem q3s(kn:Kw)(s:Bs):(wkAt kn s).sec=secB kn s:=by
 unfold wkAt secB;cases kn s <;> rfl
abbrev MpW(w:World)(b n:Nat)(kn:Kw):Prop:=MpG codW w b n kn
abbrev MpN(w:World)(b n:Nat)(kn:Bs->Option Nd):Prop:=MpG codN w b n kn
section
variable {w : World} {b n : Nat} {kn : Kw} {kd : Bs -> Option Nd} {s : Bs}
theorem q7H(h:MpW w b n kn)(hs:s.length<=maxLen):(Instr.lookup 116 (.map (some b)) (.string ⟨s.toArray⟩) true).run Tryz.prog w = .ok (.tuple #[wkV (wkAt kn s),.bool (kn s).isSome]) w:=h.look hs uFa (zFa w)
theorem q2H(h:MpW w b n kn)(hs:s.length<=maxLen):(Instr.lookup 116 (.map (some b)) (.string ⟨s.toArray⟩) false).run Tryz.prog w = .ok (wkV (wkAt kn s)) w:=h.look1 hs uFa (zFa w)
theorem q3t(h:MpW w b n kn)(hs:s.length<=maxLen)(hn:n < maxLen)(m:Wk) :
  ∃ w',(Instr.mapUpdate 116 (.map (some b)) (.string ⟨s.toArray⟩) (wkV m)).run Tryz.prog w = .ok () w'/\MpW w' b (n+1) (kn.put s m)/\w.mapTurned w' b:=h.put hs hn uFa m
theorem q6b(h:MpN w b n kd)(hs:s.length<=maxLen):(Instr.lookup 73 (.map (some b)) (.string ⟨s.toArray⟩) false).run Tryz.prog w = .ok (ndV ((kd s).getD zNd)) w:=h.look1 hs uFn (zNo w)
theorem mpn_put(h:MpN w b n kd)(hs:s.length<=maxLen)(hn:n < maxLen)(m:Nd) :
  ∃ w',(Instr.mapUpdate 73 (.map (some b)) (.string ⟨s.toArray⟩) (ndV m)).run Tryz.prog w = .ok () w'/\MpN w' b (n+1) (fun t=>if t=s then some m else kd t)/\w.mapTurned w' b:=h.put hs hn uFn m
end
def FnD(w0:World)(f:List Bs×List Tz)(d:Nd):Prop:=TIc True w0 (.mk d.k d.a d.s d.n f.1 f.2) (nzC d.k d.a d.s d.n d.A d.la d.cA d.B d.lb d.cB)/\(∀ p∈f.1,p.length<=maxLen)/\lenzs f.2/\nzs f.2
def FuM(w0 w:World)(b n:Nat)(fu:Fu):Prop:=
 ∃ kd,MpN w b n kd/\∀ s,match fu s with | none=>kd s=none | some f=>∃ d,kd s=some d/\FnD w0 f d
section
variable {w0 w w' : World} {b n : Nat} {fu : Fu} {X : Nat -> Prop}
theorem FuM.upd(h:FuM w0 w b n fu)(hu:Upd X w w')(hx:¬ X b):FuM w0 w' b n fu:=by
 obtain ⟨kd,h1,h2⟩:=h;exact ⟨kd,h1.upd hu hx,h2⟩
theorem FuM.lt(h:FuM w0 w b n fu):b < w.heap.size:=by obtain ⟨kd,h1,h2⟩:=h;exact h1.lt
theorem FuM.mono(h:FuM w0 w b n fu){m:Nat}(hm:n<=m):FuM w0 w b m fu:=by
 obtain ⟨kd,h1,h2⟩:=h;exact ⟨kd,h1.mono hm,h2⟩
end
theorem q8D:∀ {l:List Tz},nzs l->∀ {i:Nat} {x:Tz},l[i]?=some x->nz x
 | [],_,i,x,h=>Vc
 | y :: l,h,0,x,hx=>by
  have:y=x:=Vf;subst this;unfold nzs at h;exact h.1
 | y :: l,h,i+1,x,hx=>by
  unfold nzs at h;exact q8D h.2 Vf
theorem q7I{k a:Int}{s:Bs}{n:Nat}{ps:List Bs}{l:List Tz}(h:nz (.mk k a s n ps l)):n < 4294967296/\nzs l:=by unfold nz at h;exact h
theorem q5f:∀ (i:Nat) {l:List Tz},nzs l->nzs (l.take i)
 | 0,l,h=>by simp [nzs]
 | i+1,[],h=>by simp [nzs]
 | i+1,x :: l,h=>by
  unfold nzs at h;rw [List.take_succ_cons];unfold nzs;exact ⟨h.1,q5f i h.2⟩
theorem q5g:∀ (i:Nat) {l:List Tz},nzs l->nzs (l.drop i)
 | 0,l,h=>h
 | i+1,[],h=>by simp [nzs]
 | i+1,x :: l,h=>by
  unfold nzs at h;rw [List.drop_succ_cons];exact q5g i h.2
theorem lenzs_take:∀ (i:Nat) {l:List Tz},lenzs l->lenzs (l.take i)
 | 0,l,h=>V05
 | i+1,[],h=>V05
 | i+1,x :: l,h=>by
  unfold lenzs at h;rw [List.take_succ_cons];unfold lenzs;exact ⟨h.1,lenzs_take i h.2⟩
theorem q32:∀ (i:Nat) {l:List Tz},lenzs l->lenzs (l.drop i)
 | 0,l,h=>h
 | i+1,[],h=>V05
 | i+1,x :: l,h=>by
  unfold lenzs at h;rw [List.drop_succ_cons];exact q32 i h.2
theorem q3Z{q:Prop}{w:World}:∀ (i:Nat) {l:List Tz} {css:List (List Value)},TsIc q w l css->TsIc q w (l.drop i) (css.drop i)
 | 0,l,css,h=>h
 | i+1,[],css,h=>by unfold TsIc at h;subst h;simp [TsIc]
 | i+1,x :: l,css,h=>by
  unfold TsIc at h;obtain ⟨c,r,rfl,h2,h3⟩:=h;rw [List.drop_succ_cons,List.drop_succ_cons];exact q3Z i h3
theorem q40{q:Prop}{w:World}:∀ (i:Nat) {l:List Tz} {css:List (List Value)},TsIc q w l css->TsIc q w (l.take i) (css.take i)
 | 0,l,css,h=>by simp [TsIc]
 | i+1,[],css,h=>by unfold TsIc at h;subst h;simp [TsIc]
 | i+1,x :: l,css,h=>by
  unfold TsIc at h;obtain ⟨c,r,rfl,h2,h3⟩:=h;rw [List.take_succ_cons,List.take_succ_cons];unfold TsIc;exact ⟨c,_,rfl,h2,q40 i h3⟩
theorem flat_len{q:Prop}{w:World}:∀ {l:List Tz} {css:List (List Value)},TsIc q w l css->css.flatten.length=l.length * 6
 | [],css,h=>by unfold TsIc at h;subst h;rfl
 | x :: l,css,h=>by
  unfold TsIc at h;obtain ⟨c,r,rfl,h2,h3⟩:=h;obtain ⟨_,_,_,_,_,_,_,_,_,_,rfl⟩:=q1X h2;rw [List.flatten_cons,List.length_append,flat_len h3,List.length_cons];show 6+_=_;omega
theorem q41{q:Prop}{w:World}:∀ (i:Nat) {l:List Tz} {css:List (List Value)},TsIc q w l css->i<=l.length->(css.drop i).flatten=css.flatten.drop (i * 6)
 | 0,l,css,h,_=>V3
 | i+1,[],css,h,hi=>absurd hi (Nat.not_succ_le_zero _)
 | i+1,x :: l,css,h,hi=>by
  unfold TsIc at h;obtain ⟨c,r,rfl,h2,h3⟩:=h;have hc:c.length = 6:=V1L;have e1:c.drop ((i+1) * 6)=[]:=List.drop_eq_nil_of_le V0;rw [List.drop_succ_cons,q41 i h3 (by simpa using hi),List.flatten_cons,List.drop_append,e1,hc,List.nil_append]
  congr 1
  omega
theorem lies_take{w:World}{A:Option Addr}{xs ys:List Value}(h:Lies w A (xs ++ ys)):Lies w A xs:=fun j u hj=>h j u (by
 have:=(List.getElem?_eq_some_iff.1 hj).1;rw [List.getElem?_append_left this];exact hj)
theorem q6c{q:Prop}{w:World}{A:Option Addr}{W:World}(i:Nat){css:List (List Value)}(h:Lies W A css.flatten):Lies W A (css.take i).flatten:=by
 have e:css.flatten=(css.take i).flatten ++ (css.drop i).flatten:=by rw [<-List.flatten_append,List.take_append_drop]
 rw [e] at h;exact lies_take h
structure Pts(w:World)(A:Option Addr)(c:Nat)(l:List Tz):Prop where
 lies:∃ css,Lies w A css.flatten/\TsIc True w l css
 le:l.length<=c
 cap:c<=maxLen
 len:lenzs l
 num:nzs l
theorem Pts.below{w w':World}{A:Option Addr}{c:Nat}{l:List Tz}(h:Pts w A c l)(hb:Below w.heap.size w w'):Pts w' A c l:=by
 obtain ⟨⟨css,h1,h2⟩,h3,h4,h5,h6⟩:=h;exact ⟨⟨css,h1.below hb,TsIz.below hb h2⟩,h3,h4,h5,h6⟩
theorem Pts.take{w:World}{A:Option Addr}{c c':Nat}{l:List Tz}(h:Pts w A c l)(i:Nat)(h1:(l.take i).length<=c')(h2:c'<=maxLen){A':Option Addr}(hA:∀ W xs,Lies W A xs->Lies W A' xs):Pts w A' c' (l.take i):=by
 obtain ⟨⟨css,g1,g2⟩,h3,h4,h5,h6⟩:=h;exact ⟨⟨css.take i,hA _ _ (q6c (q:=True) (w:=w) i g1),q40 i g2⟩,h1,h2,lenzs_take i h5,q5f i h6⟩
theorem Pts.drop{w:World}{A:Option Addr}{c c':Nat}{l:List Tz}(h:Pts w A c l)(i:Nat)(h1:(l.drop i).length<=c')(h2:c'<=maxLen){A':Option Addr}(hA:0 < l.length - i->∀ W xs,Lies W A xs->Lies W A' (xs.drop (i * 6))):Pts w A' c' (l.drop i):=by
 obtain ⟨⟨css,g1,g2⟩,h3,h4,h5,h6⟩:=h;rcases Nat.lt_or_ge i l.length with hi | hi
 ·refine ⟨⟨css.drop i,?_,q3Z i g2⟩,h1,h2,q32 i h5,q5g i h6⟩;rw [q41 i g2 (Nat.le_of_lt hi)];exact hA V0 _ _ g1
 ·rw [List.drop_eq_nil_of_le hi] at h1 ⊢;exact ⟨⟨[],fun j u hj=>by simp at hj,by unfold TsIc;rfl⟩,h1,h2,by unfold lenzs;trivial,by unfold nzs;trivial⟩
def TrV(w:World)(z:Tz)(k a:Int)(s:Bs)(n:Nat)(A:Option Addr)(la cA:Nat)(B:Option Addr)(lb cB:Nat):Prop:=TIc True w z (nzC k a s n A la cA B lb cB)/\lenz z/\nz z
theorem TrV.below{w w':World}{z:Tz}{k a:Int}{s:Bs}{n:Nat}{A:Option Addr}{la cA:Nat}{B:Option Addr}{lb cB:Nat}(h:TrV w z k a s n A la cA B lb cB)(hb:Below w.heap.size w w'):TrV w' z k a s n A la cA B lb cB:=⟨TIz.below hb h.1,h.2⟩
theorem TrV.parts{w:World}{k1 a1:Int}{s1:Bs}{n1:Nat}{ps:List Bs}{l:List Tz}{k a:Int}{s:Bs}{n:Nat}{A:Option Addr}{la cA:Nat}{B:Option Addr}{lb cB:Nat}(h:TrV w (.mk k1 a1 s1 n1 ps l) k a s n A la cA B lb cB) :
  k=k1/\a=a1/\s=s1/\n=n1/\la=l.length/\lb=ps.length/\Pts w A cA l/\s1.length<=maxLen/\n1 < 4294967296/\Lies w B (ps.map strV)/\(∀ p∈ps,p.length<=maxLen)/\lb<=cB/\cB<=maxLen:=by
 obtain ⟨h1,h2,h3⟩:=h;obtain ⟨c1,c2⟩:=q4E h1;obtain ⟨d1,d2⟩:=q7E h1;obtain ⟨rfl,rfl,rfl,rfl,rfl,rfl,hl,hp,hB,css,hL,hS⟩:=q18 h1;obtain ⟨g1,g2,g3⟩:=q1a h2;obtain ⟨i1,i2⟩:=q7I h3;exact ⟨rfl,rfl,rfl,rfl,rfl,rfl,⟨⟨css,hL,hS⟩,c1,c2,g3,i2⟩,g1,i1,hB,g2,d1,d2⟩
theorem Pts.at_{w0 w:World}{A:Option Addr}{c:Nat}{l:List Tz}(h:Pts w0 A c l)(hb:Below w0.heap.size w0 w){i:Nat}{y:Tz}(hy:l[i]?=some y) :
  ∃ b o k a s n A' la cA B lb cB,A=some ⟨b,o,none⟩/\TrV w0 y k a s n A' la cA B lb cB/\b < w0.heap.size/\w.cell? ⟨b,o+i * 6,none⟩=some (.int .i64 k)/\w.cell? ⟨b,o+i * 6+1,none⟩=some (.string ⟨s.toArray⟩) /\
   w.cell? ⟨b,o+i * 6+2,none⟩=some (.int .u32 (n:Int))/\w.cell? ⟨b,o+i * 6+3,none⟩=some (.int .i64 a)/\w.cell? ⟨b,o+i * 6+4,none⟩=some (.slice A' la cA)/\w.cell? ⟨b,o+i * 6+5,none⟩=some (.slice B lb cB):=by
 obtain ⟨⟨css,g1,g2⟩,_,_,h5,h6⟩:=h;obtain ⟨b,o,k,a,s,n,A',la,cA,B,lb,cB,h1,h2,h3,e0,e1,e2,e3,e4,e5⟩:=q3r hb g1 g2 hy;exact ⟨b,o,k,a,s,n,A',la,cA,B,lb,cB,h1,⟨h2,q1Y h5 hy,q8D h6 hy⟩,h3,e0,e1,e2,e3,e4,e5⟩
abbrev panF(a:Int)(er:Nat):Ending:=.panicked [{ v:=.iface 113 (.agg #[.int .i64 a,.int .i64 (er:Int)]),recovered:=false }]
theorem Blk.c7{w:World}{g:Nat}{t:TypeId}{a b c d e f h:Value}(H:Blk w g t #[a,b,c,d,e,f,h]) :
  (w.cell? ⟨g,0,none⟩=some a/\w.cell? ⟨g,1,none⟩=some b/\w.cell? ⟨g,2,none⟩=some c/\w.cell? ⟨g,3,none⟩=some d/\w.cell? ⟨g,4,none⟩=some e/\w.cell? ⟨g,5,none⟩=some f/\w.cell? ⟨g,6,none⟩=some h):=
 ⟨H.cell 0,H.cell 1,H.cell 2,H.cell 3,H.cell 4,H.cell 5,H.cell 6⟩
end Fl
namespace WMath
open Go
theorem q0p(x:BitVec 32):BitVec.ofInt 32 (x.toNat:Int)=x:=by
 rw [BitVec.ofInt_natCast,BitVec.ofNat_toNat];simp
theorem wrapU32(x:BitVec 32):IntKind.u32.wrap (x.toNat:Int)=(x.toNat:Int):=by
 rw [IntKind.wrap_u32];have:=x.isLt;omega
theorem b_and(x y:BitVec 32):bits .and .u32 (x.toNat:Int) (y.toNat:Int)=((x &&& y).toNat:Int):=by
 show IntKind.u32.wrap ((BitVec.ofInt 32 (x.toNat:Int) &&& BitVec.ofInt 32 (y.toNat:Int)).toNat:Int)=_;rw [q0p,q0p,wrapU32]
theorem b_or(x y:BitVec 32):bits .or .u32 (x.toNat:Int) (y.toNat:Int)=((x ||| y).toNat:Int):=by
 show IntKind.u32.wrap ((BitVec.ofInt 32 (x.toNat:Int) ||| BitVec.ofInt 32 (y.toNat:Int)).toNat:Int)=_;rw [q0p,q0p,wrapU32]
theorem b_xor(x y:BitVec 32):bits .xor .u32 (x.toNat:Int) (y.toNat:Int)=((x ^^^ y).toNat:Int):=by
 show IntKind.u32.wrap ((BitVec.ofInt 32 (x.toNat:Int) ^^^ BitVec.ofInt 32 (y.toNat:Int)).toNat:Int)=_;rw [q0p,q0p,wrapU32]
theorem q7J(x y:BitVec 32):bits .andNot .u32 (x.toNat:Int) (y.toNat:Int)=((x &&& ~~~y).toNat:Int):=by
 show IntKind.u32.wrap ((BitVec.ofInt 32 (x.toNat:Int) &&& ~~~BitVec.ofInt 32 (y.toNat:Int)).toNat:Int)=_;rw [q0p,q0p,wrapU32]
theorem top(x:BitVec 32):(((x.toNat:Int) / 2147483648)==1)=x.msb:=by
 rw [BitVec.msb_eq_decide,Bool.eq_iff_iff];have:=x.isLt;simp;omega
def cin(c:Bool):BitVec 32:=if c then 1 else 0
def sum(a b:BitVec 32)(c:Bool):BitVec 32:=a+b+cin c
def over(a b:BitVec 32)(c:Bool):Bool:=(a.msb ^^ (sum a b c).msb) && (b.msb ^^ (sum a b c).msb)
end WMath
namespace Word
open Go.ChangeShapes Go.WideShapes Go.ChangeAt Go.RowKit WMath
abbrev u(x:BitVec 32):Value:=.int .u32 (x.toNat:Int)
theorem bd(x:BitVec 32):(x.toNat:Int) < 4294967296:=V00
theorem sel(m a b:BitVec 32)(w:World) :
  Calls Tryz.prog 110 #[u m,u a,u b] w fun e w'=>e = .returned (u ((a &&& m) ||| (b &&& ~~~m)))/\w=w':=by
 have h1:=bd m;have h2:=bd a;have h3:=bd b;go_enter Tryz.func110,Tryz.ntmps110
 go_wp2
 go_ret;refine ⟨?_,rfl⟩;show Ending.returned (.int .u32 (bits .or .u32 (bits .and .u32 (a.toNat:Int) (m.toNat:Int)) (bits .andNot .u32 (b.toNat:Int) (m.toNat:Int))))=_;rw [b_and,q7J,b_or]
theorem highest(a:BitVec 32)(w:World):Calls Tryz.prog 135 #[u a] w fun e w'=>e = .returned (.bool a.msb)/\w=w':=by
 have h2:=bd a;go_enter Tryz.func135,Tryz.ntmps135
 go_wp2
 go_ret;refine ⟨?_,rfl⟩;show Ending.returned (.bool ((a.toNat:Int) / 2147483648==1))=_;rw [top]
end Word
section
open Go.ChangeShapes Go.WideShapes Go.ChangeAt Go.RowKit WMath Word
theorem b_not(x:BitVec 32):bits .xor .u32 4294967295 (x.toNat:Int)=((~~~x).toNat:Int):=by
 have h:=b_xor 4294967295#32 x;rw [show ((4294967295#32).toNat:Int) = 4294967295 from rfl] at h;rw [h]
 congr 2
theorem un_not(x:BitVec 32):Op.unary .xor (.int .u32 (x.toNat:Int))=pure (Value.int .u32 ((~~~x).toNat:Int)):=by
 show pure (Value.int .u32 (bits .xor .u32 4294967295 (x.toNat:Int)))=_;rw [b_not]
def selW(m a b:BitVec 32):BitVec 32:=(a &&& m) ||| (b &&& ~~~m)
theorem not_sub(m:BitVec 32):(4294967295:Int) - (m.toNat:Int)=((~~~m).toNat:Int):=by
 rw [BitVec.toNat_not];have:=m.isLt;omega
theorem selC(m a b:BitVec 32)(w:World):Calls Tryz.prog 110 #[u m,u a,u b] w fun e w'=>e = .returned (u (selW m a b))/\w=w':=sel m a b w
end
namespace Word
open Go.ChangeShapes Go.WideShapes Go.ChangeAt Go.RowKit WMath
theorem and31(k:Int)(s:Nat)(hs:s < 32)(hk:k=s\/k=(s:Int) - 32):bits BinOp.and IntKind.u64 (IntKind.u64.wrap k) 31=(s:Int):=by
 have e:∃ m:Nat,IntKind.u64.wrap k=(m:Int)/\m < 18446744073709551616/\m % 32=s:=by
  rw [IntKind.wrap_u64];refine ⟨(k % 18446744073709551616).toNat,V0,V0,?_⟩;rcases hk with rfl | rfl <;> omega
 obtain ⟨m,hm,h1,h2⟩:=e;rw [hm,show (31:Int)=((31:Nat):Int) from rfl,bits_and_u64_nat m 31 h1 V0,<-h2]
 congr 1
 exact Nat.and_two_pow_sub_one_eq_mod m 5
theorem shl_int(a:BitVec 32)(s:Nat):(a.toNat:Int) * 2 ^ s % 4294967296=((a <<< s).toNat:Int):=by
 rw [BitVec.toNat_shiftLeft,Nat.shiftLeft_eq,Int.natCast_emod,Int.natCast_mul,Int.natCast_pow];rfl
theorem shr_int(a:BitVec 32)(s:Nat):(a.toNat:Int) / 2 ^ s=((a >>> s).toNat:Int):=by
 rw [BitVec.toNat_ushiftRight,Nat.shiftRight_eq_div_pow,Int.natCast_ediv,Int.natCast_pow];rfl
theorem rotl_or(a:BitVec 32)(s:Nat)(hs:s < 32):(a <<< s) ||| (a >>> (32 - s))=a.rotateLeft s:=by
 rw [BitVec.rotateLeft_def,Nat.mod_eq_of_lt hs]
theorem rotl(a:BitVec 32)(k:Int)(s:Nat)(hs:s < 32)(hk:k=s\/k=(s:Int) - 32)(w:World) :
  Calls Tryz.prog 134 #[u a,.int .i64 k] w fun e w'=>e = .returned (u (a.rotateLeft s))/\w=w':=by
 have h2:=bd a;have hb:=and31 k s hs hk;clear hk;go_enter Tryz.func134,Tryz.ntmps134
 go_wp2
 go_ret;refine ⟨?_,rfl⟩;show Ending.returned (.int .u32 (bits BinOp.or IntKind.u32 ((a.toNat:Int) * 2 ^ s % 4294967296) ((a.toNat:Int) / 2 ^ (32 - s))))=_;rw [shl_int,shr_int,b_or,rotl_or a s hs]
theorem rot(a:BitVec 32)(n:Nat)(hn:n < 4294967296)(w:World) :
  Calls Tryz.prog 109 #[u a,.int .u32 n] w fun e w'=>e = .returned (u (a.rotateLeft n))/\w=w':=by
 go_enter Tryz.func109,Tryz.ntmps109;go_wp2_with fail
 refine (rotl a _ (n % 32) V0 (by left;omega) _).mono ?_;rintro e w' ⟨rfl,rfl⟩
 go_wp2
 go_ret;exact ⟨rfl,rfl⟩
theorem bit1(m:Nat)(hm:m < 18446744073709551616):(bits BinOp.and IntKind.u64 (m:Int) 1==1)=decide (m % 2 = 1):=by
 rw [show (1:Int)=((1:Nat):Int) from rfl,bits_and_u64_nat m 1 hm V0,Nat.and_one_is_mod,Bool.eq_iff_iff];simp;omega
theorem left(a:BitVec 32)(n:Nat)(hn:n < 4294967296)(w:World) :
  Calls Tryz.prog 131 #[u a,.int .u32 n] w fun e w'=>e = .returned (.tuple #[u (a <<< n),.bool (decide (a.toNat * 2 ^ n / 4294967296 % 2 = 1))])/\w=w':=by
 have h2:=bd a;go_enter Tryz.func131,Tryz.ntmps131
 go_wp2
 go_ret2
 refine ⟨?_,rfl⟩;have e1:IntKind.u64.wrap ((a.toNat:Int) * 2 ^ min n 64)=((a.toNat * 2 ^ min n 64 % 18446744073709551616:Nat):Int):=by rw [IntKind.wrap_u64,Int.natCast_emod,Int.natCast_mul,Int.natCast_pow];rfl
 show Ending.returned (.tuple #[.int .u32 (IntKind.u64.wrap ((a.toNat:Int) * 2 ^ min n 64) % 4294967296),.bool (bits BinOp.and IntKind.u64 (IntKind.u64.wrap ((a.toNat:Int) * 2 ^ min n 64) / 4294967296) 1==1)])=_;rw [e1,show ((4294967296:Int))=((4294967296:Nat):Int) from rfl,<-Int.natCast_ediv,<-Int.natCast_emod,bit1 _ V0];have e2:a.toNat * 2 ^ min n 64 % 18446744073709551616 % 4294967296=(a <<< n).toNat:=by
  rw [BitVec.toNat_shiftLeft,Nat.shiftLeft_eq,Nat.mod_mod_of_dvd _ (by decide:4294967296 ∣ 18446744073709551616)];rcases Nat.le_total n 64 with h | h
  ·rw [Nat.min_eq_left h]
  ·rw [Nat.min_eq_right h,show n = 64+(n - 64) from V0,Nat.pow_add];rw [show (2:Nat) ^ 64 = 4294967296 * 4294967296 from V2];rw [show a.toNat * (4294967296 * 4294967296 * 2 ^ (n - 64)) = 2 ^ 32 * (a.toNat * 4294967296 * 2 ^ (n - 64)) by rw [show (2:Nat) ^ 32 = 4294967296 from V2];ac_rfl,Nat.mul_mod_right];omega
 have e3:a.toNat * 2 ^ min n 64 % 18446744073709551616 / 4294967296 % 2=a.toNat * 2 ^ n / 4294967296 % 2:=by
  rcases Nat.le_total n 64 with h | h
  ·rw [Nat.min_eq_left h];generalize a.toNat * 2 ^ n=m;omega
  ·rw [Nat.min_eq_right h,show n = 64+(n - 64) from V0,Nat.pow_add];rw [show (2:Nat) ^ 64 = 18446744073709551616 from V2];rw [show a.toNat * (18446744073709551616 * 2 ^ (n - 64)) = 4294967296 * (2 * (2147483648 * (a.toNat * 2 ^ (n - 64)))) by rw [show 18446744073709551616 = 4294967296 * (2 * 2147483648) from V2];ac_rfl];rw [Nat.mul_div_cancel_left _ V2,Nat.mul_mod_right];omega
 rw [e2,e3]
theorem right(a:BitVec 32)(n:Nat)(hn:n < 4294967296)(w:World) :
  Calls Tryz.prog 132 #[u a,.int .u32 n] w fun e w'=>e = .returned (.tuple #[u (a >>> n),.bool (decide (a.toNat * 2 / 2 ^ n % 2 = 1))])/\w=w':=by
 have h2:=bd a;go_enter Tryz.func132,Tryz.ntmps132
 go_wp2
 go_ret2
 refine ⟨?_,rfl⟩;show Ending.returned (.tuple #[.int .u32 ((a.toNat:Int) * 2 / 2 ^ min n 64 / 2 % 4294967296),.bool (bits BinOp.and IntKind.u64 ((a.toNat:Int) * 2 / 2 ^ min n 64) 1==1)])=_;have e1:(a.toNat:Int) * 2 / 2 ^ min n 64=((a.toNat * 2 / 2 ^ min n 64:Nat):Int):=by rw [Int.natCast_ediv,Int.natCast_mul,Int.natCast_pow];rfl
 have e0:a.toNat * 2 / 2 ^ min n 64=a.toNat * 2 / 2 ^ n:=by
  rcases Nat.le_total n 64 with h | h
  ·rw [Nat.min_eq_left h]
  ·rw [Nat.min_eq_right h,Nat.div_eq_of_lt V0,Nat.div_eq_of_lt (Nat.lt_of_lt_of_le (by omega:a.toNat * 2 < 2 ^ 64) (Nat.pow_le_pow_right V0 h))]
 have e4:a.toNat * 2 / 2 ^ n<=a.toNat * 2:=Nat.div_le_self _ _;rw [e1,e0,bit1 _ V0];have e2:((a.toNat * 2 / 2 ^ n:Nat):Int) / 2 % 4294967296=((a >>> n).toNat:Int):=by
  rw [BitVec.toNat_ushiftRight,Nat.shiftRight_eq_div_pow];have e5:a.toNat * 2 / 2 ^ n / 2=a.toNat / 2 ^ n:=by rw [Nat.div_div_eq_div_mul,Nat.mul_comm (2 ^ n) 2,Nat.mul_comm a.toNat 2,Nat.mul_div_mul_left _ _ V0]
  have e6:a.toNat / 2 ^ n<=a.toNat:=Nat.div_le_self _ _;generalize a.toNat * 2 / 2 ^ n=m at *;omega
 rw [e2]
theorem q7K(m:Int):(bits BinOp.and IntKind.i64 m 1==1)=decide (m % 2 = 1):=by
 have e:bits BinOp.and IntKind.i64 m 1=m % 2:=by
  show IntKind.i64.wrap ((BitVec.ofInt 64 m &&& BitVec.ofInt 64 1).toNat:Int)=_;have h1:(BitVec.ofInt 64 m &&& BitVec.ofInt 64 1).toNat=(m % 2).toNat:=by
   rw [BitVec.toNat_and,show (BitVec.ofInt 64 1).toNat = 1 from rfl,Nat.and_one_is_mod,BitVec.toNat_ofInt];omega
  rw [h1,IntKind.wrap_i64];omega
 rw [e,Bool.eq_iff_iff];simp
theorem q2I(x:BitVec 32):(x.toNat:Int)=x.toInt % 4294967296:=by
 have h:=congrArg BitVec.toNat (BitVec.ofInt_toInt (x:=x));rw [BitVec.toNat_ofInt] at h;omega
theorem rightS(a:BitVec 32)(n:Nat)(hn:n < 4294967296)(w:World) :
  Calls Tryz.prog 133 #[u a,.int .u32 n] w fun e w'=>e = .returned (.tuple #[u (a.sshiftRight n),.bool (decide (a.toInt * 2 / 2 ^ n % 2 = 1))])/\w=w':=by
 have h2:=bd a;go_enter Tryz.func133,Tryz.ntmps133
 go_wp2
 go_ret2
 refine ⟨?_,rfl⟩;show Ending.returned (.tuple #[.int .u32 (wrap64 (wrap64 (wrap32 (a.toNat:Int)) * 2) / 2 ^ min n 64 / 2 % 4294967296),.bool (bits BinOp.and IntKind.i64 (wrap64 (wrap64 (wrap32 (a.toNat:Int)) * 2) / 2 ^ min n 64) 1==1)])=_;have ht:=q2I a;have hlo:=BitVec.le_toInt a;have hhi:=BitVec.toInt_lt (x:=a);have e1:wrap64 (wrap64 (wrap32 (a.toNat:Int)) * 2)=a.toInt * 2:=by
  unfold wrap64 wrap32;omega
 have e0:a.toInt * 2 / 2 ^ min n 64=a.toInt * 2 / 2 ^ n:=by
  rcases Nat.le_total n 64 with h | h
  ·rw [Nat.min_eq_left h]
  ·rw [Nat.min_eq_right h];have hp:(18446744073709551616:Int)<=2 ^ n:=by
    have:=Int.ofNat_le.2 (Nat.pow_le_pow_right (show 0 < 2 from V2) h);rw [Int.natCast_pow,Int.natCast_pow] at this;exact this
   by_cases h0:a.toInt < 0
   ·rw [Int.ediv_eq_neg_one_of_neg_of_le V0 V0,Int.ediv_eq_neg_one_of_neg_of_le V0 V0]
   ·rw [Int.ediv_eq_zero_of_lt V0 V0,Int.ediv_eq_zero_of_lt V0 V0]
 rw [e1,e0,q7K];have e2:a.toInt * 2 / 2 ^ n / 2 % 4294967296=((a.sshiftRight n).toNat:Int):=by
  rw [q2I,BitVec.toInt_sshiftRight,Int.shiftRight_eq_div_pow];have e5:a.toInt * 2 / 2 ^ n / 2=a.toInt / 2 ^ n:=by
   have hp:(0:Int) < 2 ^ n:=Int.pow_pos V0;rw [Int.ediv_ediv_of_nonneg V0,Int.mul_ediv_mul_of_pos_left _ _ V0]
  rw [e5,Int.natCast_pow];rfl
 rw [e2]
def shV(k:Int)(a:BitVec 32)(n:Nat):BitVec 32:=
 if k < 0\/3 < k then 0 else if n = 0 then a else if k = 0 then a <<< n else if k = 1 then a >>> n else if k = 2 then a.sshiftRight n else a.rotateLeft ((32 - n % 32) % 32)
def shC(k:Int)(a:BitVec 32)(n:Nat)(c:Bool):Bool:=
 if k < 0\/3 < k then false else if n = 0 then c else if k = 0 then decide (a.toNat * 2 ^ n / 4294967296 % 2 = 1) else if k = 1 then decide (a.toNat * 2 / 2 ^ n % 2 = 1)
 else if k = 2 then decide (a.toInt * 2 / 2 ^ n % 2 = 1) else (a.rotateLeft ((32 - n % 32) % 32)).msb
theorem shift(k:Int)(a:BitVec 32)(n:Nat)(hn:n < 4294967296)(c:Bool)(w:World) :
  Calls Tryz.prog 108 #[.int .i64 k,u a,.int .u32 n,.bool c] w fun e w'=>e = .returned (.tuple #[u (shV k a n),.bool (shC k a n c)])/\w=w':=by
 have h2:=bd a;by_cases k0:k < 0
 ·go_enter Tryz.func108,Tryz.ntmps108
  go_wp2
  go_ret2
  exact ⟨by simp [shV,shC,k0],rfl⟩
 have k0':decide (k < 0)=false:=by simpa using k0
 by_cases k3:3 < k
 ·go_enter Tryz.func108,Tryz.ntmps108
  go_wp2
  go_ret2
  exact ⟨by simp [shV,shC,k3],rfl⟩
 have k3':decide (3 < k)=false:=by simpa using k3
 have kk:¬ (k < 0\/3 < k):=V0;by_cases n0:n = 0
 ·subst n0;go_enter Tryz.func108,Tryz.ntmps108
  go_wp2
  go_ret2
  exact ⟨by simp [shV,shC,kk],rfl⟩
 have n0':((n:Int)==0)=false:=by simpa using n0
 have hsh:k = 0\/k = 1\/k = 2\/k = 3:=V0;rcases hsh with rfl | rfl | rfl | rfl
 ·go_enter Tryz.func108,Tryz.ntmps108;go_wp2_with (go_at_call 131;refine (left a n hn _).mono ?_;rintro e w' ⟨rfl,rfl⟩)
  exact V1Z
 ·go_enter Tryz.func108,Tryz.ntmps108;go_wp2_with (go_at_call 132;refine (right a n hn _).mono ?_;rintro e w' ⟨rfl,rfl⟩)
  exact V1Z
 ·go_enter Tryz.func108,Tryz.ntmps108;go_wp2_with (go_at_call 133;refine (rightS a n hn _).mono ?_;rintro e w' ⟨rfl,rfl⟩)
  exact V1Z
 ·have hs:(32 - n % 32) % 32 < 32:=by omega
  go_enter Tryz.func108,Tryz.ntmps108;go_wp2_with fail
  refine (rotl a _ ((32 - n % 32) % 32) hs V0 _).mono ?_;rintro e w' ⟨rfl,rfl⟩;go_wp2_with (go_at_call 135;refine (highest _ _).mono ?_;rintro e w' ⟨rfl,rfl⟩)
  go_ret2
  refine ⟨?_,rfl⟩;simp [shV,shC,n0]
end Word
namespace Fl
open Go Go.ChangeShapes Go.WideShapes Go.ChangeAt Go.RowKit Lx Args Pa Sh Go.Proofs.YtcgibpdjfgjldaaGreatDoor.Nm WMath
def unB(s:Bs)(x:BitVec 32):BitVec 32:=if s=[126] then ~~~x else if s=[45] then -x else 0
def boB(s:Bs)(x y:BitVec 32):BitVec 32:=
 if s=[43] then x+y else if s=[45] then x - y else if s=[38] then x &&& y else if s=[124] then x ||| y else if s=[94] then x ^^^ y else 0
def shB(s:Bs)(x y:BitVec 32):BitVec 32:=
 if s=[60,60] then Word.shV 0 x y.toNat else if s=[62,62] then Word.shV 1 x y.toNat else if s=[60,60,60] then x.rotateLeft y.toNat else 0
abbrev uV(x:BitVec 32):Value:=.int .u32 (x.toNat:Int)
def WoP(w:World)(x:BitVec 32)(e:Ending)(w':World):Prop:=e = .returned (uV x)/\Below w.heap.size w w'
theorem add_u(x y:BitVec 32):((x.toNat:Int)+(y.toNat:Int)) % 4294967296=((x+y).toNat:Int):=by
 rw [BitVec.toNat_add];omega
theorem sub_u(x y:BitVec 32):((x.toNat:Int) - (y.toNat:Int)) % 4294967296=((x - y).toNat:Int):=by
 have hx:=x.isLt;have hy:=y.isLt;rw [BitVec.toNat_sub];omega
theorem neg_u(x:BitVec 32):(-(x.toNat:Int)) % 4294967296=((-x).toNat:Int):=by
 have hx:=x.isLt;rw [BitVec.toNat_neg];omega
theorem alone(w:World)(s:Bs)(x:BitVec 32):Calls Tryz.prog 79 #[.string ⟨s.toArray⟩,uV x] w (WoP w (unB s x)):=by
 have hx:(x.toNat:Int) < 4294967296:=V00;have HNE:=neg_u x;have HB:=Hi (Below.refl w.heap.size w);unfold WoP;obtain ⟨res,hres⟩:∃ res,unB s x=res:=⟨_,rfl⟩;have HRES:=Hi hres;rw [hres];clear hres;unfold unB at HRES;by_cases e1:s=[126]
 ·subst e1;have HQ:=Hi (show ~~~x=res from HRES.out);have hun:=un_not x;clear HRES;go_enter Tryz.func79,Tryz.ntmps79;go_wp2_with fail
  go_ret;refine ⟨?_,HB.out⟩;rw [<-HQ.out];show Ending.returned (.int .u32 (((4294967295 - x.toNat:Nat):Int)))=_;rw [show 4294967295 - x.toNat=(~~~x).toNat from (BitVec.toNat_not (x:=x)).symm]
 by_cases e2:s=[45]
 ·subst e2;have HQ:=Hi (show -x=res from HRES.out);clear HRES;go_enter Tryz.func79,Tryz.ntmps79;go_wp2_with fail
  go_ret;refine ⟨?_,HB.out⟩;rw [<-HQ.out];show Ending.returned (.int .u32 ((-(x.toNat:Int)) % 4294967296))=_;rw [HNE]
 have HQ:=Hi (show (0:BitVec 32)=res by rw [<-HRES.out,if_neg e1,if_neg e2]);have f1:(s==[126])=false:=by simpa using e1
 have f2:(s==[45])=false:=by simpa using e2
 clear HRES;go_enter Tryz.func79,Tryz.ntmps79;go_wp2_with fail
 go_ret;refine ⟨?_,HB.out⟩;rw [<-HQ.out];rfl
theorem both(w:World)(s:Bs)(x y:BitVec 32):Calls Tryz.prog 80 #[.string ⟨s.toArray⟩,uV x,uV y] w (WoP w (boB s x y)):=by
 have hx:(x.toNat:Int) < 4294967296:=V00;have hy:(y.toNat:Int) < 4294967296:=V13;have ha:=add_u x y;have hs:=sub_u x y;have h1:=b_and x y;have h2:=b_or x y;have h3:=b_xor x y;have HB:=Hi (Below.refl w.heap.size w);unfold WoP;obtain ⟨res,hres⟩:∃ res,boB s x y=res:=⟨_,rfl⟩;have HRES:=Hi hres;rw [hres];clear hres;unfold boB at HRES;by_cases e1:s=[43]
 ·subst e1;have HQ:=Hi (show x+y=res from HRES.out);clear HRES;go_enter Tryz.func80,Tryz.ntmps80;go_wp2_with fail
  go_ret;refine ⟨?_,HB.out⟩;rw [<-HQ.out];show Ending.returned (.int .u32 (((x.toNat:Int)+(y.toNat:Int)) % 4294967296))=_;rw [ha]
 by_cases e2:s=[45]
 ·subst e2;have HQ:=Hi (show x - y=res from HRES.out);clear HRES;go_enter Tryz.func80,Tryz.ntmps80;go_wp2_with fail
  go_ret;refine ⟨?_,HB.out⟩;rw [<-HQ.out];show Ending.returned (.int .u32 (((x.toNat:Int) - (y.toNat:Int)) % 4294967296))=_;rw [hs]
 by_cases e3:s=[38]
 ·subst e3;have HQ:=Hi (show x &&& y=res from HRES.out);clear HRES;go_enter Tryz.func80,Tryz.ntmps80;go_wp2_with fail
  go_ret;refine ⟨?_,HB.out⟩;rw [<-HQ.out];show Ending.returned (.int .u32 (((x.toNat &&& y.toNat:Nat):Int)))=_;rw [<-BitVec.toNat_and]
 by_cases e4:s=[124]
 ·subst e4;have HQ:=Hi (show x ||| y=res from HRES.out);clear HRES;go_enter Tryz.func80,Tryz.ntmps80;go_wp2_with fail
  go_ret;refine ⟨?_,HB.out⟩;rw [<-HQ.out];show Ending.returned (.int .u32 (((x.toNat ||| y.toNat:Nat):Int)))=_;rw [<-BitVec.toNat_or]
 by_cases e5:s=[94]
 ·subst e5;have HQ:=Hi (show x ^^^ y=res from HRES.out);clear HRES;go_enter Tryz.func80,Tryz.ntmps80;go_wp2_with fail
  go_ret;refine ⟨?_,HB.out⟩;rw [<-HQ.out];show Ending.returned (.int .u32 (((x.toNat ^^^ y.toNat:Nat):Int)))=_;rw [<-BitVec.toNat_xor]
 have HQ:=Hi (show (0:BitVec 32)=res by rw [<-HRES.out,if_neg e1,if_neg e2,if_neg e3,if_neg e4,if_neg e5]);have f1:(s==[43])=false:=by simpa using e1
 have f2:(s==[45])=false:=by simpa using e2
 have f3:(s==[38])=false:=by simpa using e3
 have f4:(s==[124])=false:=by simpa using e4
 have f5:(s==[94])=false:=by simpa using e5
 clear HRES;go_enter Tryz.func80,Tryz.ntmps80;go_wp2_with fail
 go_ret;refine ⟨?_,HB.out⟩;rw [<-HQ.out];rfl
theorem shifted(w:World)(s:Bs)(x y:BitVec 32):Calls Tryz.prog 81 #[.string ⟨s.toArray⟩,uV x,uV y] w (WoP w (shB s x y)):=by
 have hx:(x.toNat:Int) < 4294967296:=V00;have hy:(y.toNat:Int) < 4294967296:=V13;have HS:=Hi (Word.shift 0 x y.toNat y.isLt false w);have HT:=Hi (Word.shift 1 x y.toNat y.isLt false w);have HR:=Hi (Word.rot x y.toNat y.isLt w);have HB:=Hi (Below.refl w.heap.size w);unfold WoP;obtain ⟨res,hres⟩:∃ res,shB s x y=res:=⟨_,rfl⟩;have HRES:=Hi hres;rw [hres];clear hres;unfold shB at HRES;by_cases e1:s=[60,60]
 ·subst e1;have HQ:=Hi (show Word.shV 0 x y.toNat=res from HRES.out);rw [HQ.out] at HS;clear HRES;go_enter Tryz.func81,Tryz.ntmps81;go_wp2_with fail
  refine HS.out.mono ?_;exact V1D
 by_cases e2:s=[62,62]
 ·subst e2;have HQ:=Hi (show Word.shV 1 x y.toNat=res from HRES.out);rw [HQ.out] at HT;clear HRES;go_enter Tryz.func81,Tryz.ntmps81;go_wp2_with fail
  refine HT.out.mono ?_;exact V1D
 by_cases e3:s=[60,60,60]
 ·subst e3;have HQ:=Hi (show x.rotateLeft y.toNat=res from HRES.out);rw [HQ.out] at HR;clear HRES;go_enter Tryz.func81,Tryz.ntmps81;go_wp2_with fail
  refine HR.out.mono ?_;exact V1D
 have HQ:=Hi (show (0:BitVec 32)=res by rw [<-HRES.out,if_neg e1,if_neg e2,if_neg e3]);have f1:(s==[60,60])=false:=by simpa using e1
 have f2:(s==[62,62])=false:=by simpa using e2
 have f3:(s==[60,60,60])=false:=by simpa using e3
 clear HRES;go_enter Tryz.func81,Tryz.ntmps81;go_wp2_with fail
 go_ret;refine ⟨?_,HB.out⟩;rw [<-HQ.out];rfl
end Fl
namespace HT
open Go
section
variable {P : Program} {ops : Array Oper} {Q : Exit -> Act -> World -> Prop} {md : Region.Mode} {Z S : World -> Prop} {st : List Nat}
def none_(st:List Nat)(listed:Array Bool):Prop:=∀ s∈st,listed.getD s true=false
def anyT(P:Program)(md:Region.Mode)(ops:Array Oper)(Q:Exit->Act->World->Prop)(Z S:World->Prop)(st:List Nat):Nat->Array Bool->Act->World->Prop
 | 0,listed,a,w=>Region.ready md ops listed=[]/\Q .normal a w
 | f+1,listed,a,w=>(Region.ready md ops listed=[]->Q .normal a w) /\
  ∀ i∈Region.ready md ops listed,wpOp P ops Q i (fun a' w'=>(Z w'/\(none_ st (listed.setIfInBounds i true)->S w'))/\anyT P md ops Q Z S st f (listed.setIfInBounds i true) a' w') a w
theorem any_of:∀ (f:Nat) (listed:Array Bool) (a:Act) (w:World),anyT P md ops Q Z S st f listed a w->wpAny P md ops Q f listed a w
 | 0,_,_,_,h=>h
 | f+1,_,_,_,h=>⟨h.1,fun i hi=>wpOp_mono (fun a' w' h'=>any_of f _ a' w' h'.2) (h.2 i hi)⟩
def waitB(md:Region.Mode)(ops:Array Oper)(st:List Nat)(i:Nat):Bool:=st.all fun s=>((ops[s]?).map (·.after.any fun e=>Region.binds md e && e.on==i)).getD false
theorem wait_no{i s:Nat}(hw:waitB md ops st i=true)(hs:s∈st){listed:Array Bool}(hi:listed.getD i true=false):s ∉ Region.ready md ops listed:=fun hr=>by
 have h1:=List.all_eq_true.1 hw s hs;obtain ⟨_,o,ho,hall⟩:=mem_ready.1 hr;rw [ho] at h1;simp only [Option.map_some,Option.getD_some] at h1;obtain ⟨e,he,hb⟩:=Array.any_eq_true'.1 h1;simp only [Bool.and_eq_true,beq_iff_eq] at hb;have h2:=hall e he hb.1;rw [hb.2] at h2;rcases Nat.lt_or_ge i listed.size with h' | h'
 ·simp [h'] at h2 hi;rw [hi] at h2;cases h2
 ·simp [Array.getElem?_eq_none h'] at h2
theorem q2u{j:Nat}{listed:Array Bool}(h:none_ st listed)(hj:j ∉ st):none_ st (listed.setIfInBounds j true):=fun s hs=>by
 have h1:=h s hs;have:s≠j:=fun e=>hj (e ▸ hs)
 rw [Array.getD_eq_getD_getElem?] at h1 ⊢;rw [Array.getElem?_setIfInBounds_ne (Ne.symm this)];exact h1
theorem first{i:Nat}{oi:Oper}{v:Value}(hi:ops[i]?=some oi)(hsel:∀ (j:Nat) (o:Oper) cs b,ops[j]?=some o->o.op≠.select cs b)
  (hQ:∀ c a w,Q (.panic c) (a.put oi.dst v) w->Q (.panic c) a w) (hw:waitB md ops st i=true) (hist:i ∉ st) :
  ∀ (f:Nat) (listed:Array Bool) (a:Act) (w:World),
   (∀ j oj,ops[j]?=some oj->j≠i->listed.getD j true=false->(∀ e∈oj.after,Region.binds md e=true->e.on≠i)->oi.apart ops oj=true) ->
   i∈Region.ready md ops listed->none_ st listed->YieldsIf P ops S oi v a->Z w->S w ->
   anyT P md ops Q Z S st f (listed.setIfInBounds i true) (a.put oi.dst v) w->anyT P md ops Q Z S st (f+1) listed a w:=by
 intro f
 induction f with
 | zero=>
  intro listed a w _ hr _ hy hZ hS H;refine ⟨fun h=>V0T,fun j hj=>?_⟩;by_cases hji:j=i
  ·subst hji;exact hy.wpOp hi hS ⟨⟨hZ,fun _=>hS⟩,H⟩
  ·have:=ready_mono hj hji;rw [H.1] at this;cases this
 | succ f ih=>
  intro listed a w hfree hr hn hy hZ hS H;refine ⟨fun h=>V0T,fun j hj=>?_⟩;by_cases hji:j=i
  ·subst hji;exact hy.wpOp hi hS ⟨⟨hZ,fun _=>hS⟩,H⟩
  ·have h1:=H.2 j (ready_mono hj hji);obtain ⟨hjun,oj,hoj,hall⟩:=mem_ready.1 hj;have hiun:=(mem_ready.1 hr).1;have hnot:∀ e∈oj.after,Region.binds md e=true->e.on≠i:=fun e he hb heq=>by
    exact V2V
   have hjst:j ∉ st:=fun h=>wait_no hw h hiun hj
   have h2:=wpOp_putIf hoj (hfree j oj hoj hji hjun hnot) (fun cs b=>hsel i oi cs b hi) (fun cs b=>hsel j oj cs b hoj) hQ hy h1;have hnj:=q2u hn hjst;refine wpOp_mono (fun a' w' h3=>?_) h2;have hS':S w':=h3.2.1.2 (q2u (q2u hn hist) hjst);refine ⟨⟨h3.2.1.1,fun _=>hS'⟩,ih (listed.setIfInBounds j true) a' w' (fun k ok hk hki hun hno=>hfree k ok hk hki ?_ hno) (ready_mono hr (Ne.symm hji)) hnj h3.1 h3.2.1.1 hS' ?_⟩
   ·exact V34
   ·rw [Array.setIfInBounds_comm _ _ hji];exact h3.2.2
theorem firstP{i:Nat}{oi:Oper}{v:Value}(hi:ops[i]?=some oi)(hsel:∀ (j:Nat) (o:Oper) cs b,ops[j]?=some o->o.op≠.select cs b)
  (hQ:∀ c a w,Q (.panic c) (a.put oi.dst v) w->Q (.panic c) a w) (hist:i ∉ st) :
  ∀ (f:Nat) (listed:Array Bool) (a:Act) (w:World),
   (∀ j oj,ops[j]?=some oj->j≠i->listed.getD j true=false->(∀ e∈oj.after,Region.binds md e=true->e.on≠i)->oi.apart ops oj=true) ->
   i∈Region.ready md ops listed->Z w->(none_ st listed->S w)->YieldsIf P ops Z oi v a ->
   anyT P md ops Q Z S st f (listed.setIfInBounds i true) (a.put oi.dst v) w->anyT P md ops Q Z S st (f+1) listed a w:=by
 intro f
 induction f with
 | zero=>
  intro listed a w _ hr hZ hS hy H;refine ⟨fun h=>V0T,fun j hj=>?_⟩;by_cases hji:j=i
  ·exact V2O
  ·have:=ready_mono hj hji;rw [H.1] at this;cases this
 | succ f ih=>
  intro listed a w hfree hr hZ hS hy H;refine ⟨fun h=>V0T,fun j hj=>?_⟩;by_cases hji:j=i
  ·exact V2O
  ·have h1:=H.2 j (ready_mono hj hji);obtain ⟨hjun,oj,hoj,hall⟩:=mem_ready.1 hj;have hiun:=(mem_ready.1 hr).1;have hnot:∀ e∈oj.after,Region.binds md e=true->e.on≠i:=fun e he hb heq=>by
    exact V2V
   have h2:=wpOp_putIf hoj (hfree j oj hoj hji hjun hnot) (fun cs b=>hsel i oi cs b hi) (fun cs b=>hsel j oj cs b hoj) hQ hy h1;refine wpOp_mono (fun a' w' h3=>?_) h2;have hS':none_ st (listed.setIfInBounds j true)->S w':=fun hx=>h3.2.1.2 (by rw [Array.setIfInBounds_comm _ _ (Ne.symm hji)];exact q2u hx hist)
   refine ⟨⟨h3.2.1.1,hS'⟩,ih (listed.setIfInBounds j true) a' w' (fun k ok hk hki hun hno=>hfree k ok hk hki ?_ hno) (ready_mono hr (Ne.symm hji)) h3.2.1.1 hS' h3.1 ?_⟩
   ·exact V34
   ·rw [Array.setIfInBounds_comm _ _ hji];exact h3.2.2
def noneB(st:List Nat)(listed:Array Bool):Bool:=st.all fun s=>!listed.getD s true
theorem none_of{listed:Array Bool}(h:noneB st listed=true):none_ st listed:=fun s hs=>by simpa using List.all_eq_true.1 h s hs
theorem take{i:Nat}{oi:Oper}{v:Value}{f:Nat}{listed:Array Bool}{a:Act}{w:World}(hi:ops[i]?=some oi)
  (hs:Region.noSelect ops=true) (hf:Region.free md ops listed i=true) (hr:(Region.ready md ops listed).contains i=true) (hw:waitB md ops st i=true) (hn:noneB st listed=true) (hist:st.contains i=false)
  (hQ:∀ c a w,Q (.panic c) (a.put oi.dst v) w->Q (.panic c) a w) (hy:YieldsIf P ops S oi v a) (hZ:Z w) (hS:S w)
  (h:anyT P md ops Q Z S st f (listed.setIfInBounds i true) (a.put oi.dst v) w):anyT P md ops Q Z S st (f+1) listed a w:=
 first hi (Region.noSelect_spec hs) hQ hw (by simpa using hist) f listed a w (Region.free_spec hi hf) (by simpa using hr) (none_of hn) hy hZ hS h
theorem takeP{i:Nat}{oi:Oper}{v:Value}{f:Nat}{listed:Array Bool}{a:Act}{w:World}(hi:ops[i]?=some oi)
  (hs:Region.noSelect ops=true) (hf:Region.free md ops listed i=true) (hr:(Region.ready md ops listed).contains i=true) (hist:st.contains i=false)
  (hQ:∀ c a w,Q (.panic c) (a.put oi.dst v) w->Q (.panic c) a w) (hy:YieldsIf P ops Z oi v a) (hZ:Z w) (hS:none_ st listed->S w)
  (h:anyT P md ops Q Z S st f (listed.setIfInBounds i true) (a.put oi.dst v) w):anyT P md ops Q Z S st (f+1) listed a w:=
 firstP hi (Region.noSelect_spec hs) hQ (by simpa using hist) f listed a w (Region.free_spec hi hf) (by simpa using hr) hZ hS hy h
theorem takeS{i:Nat}{oi:Oper}{v:Value}{f:Nat}{listed:Array Bool}{a:Act}{w:World}(hi:ops[i]?=some oi)
  (hs:Region.noSelect ops=true) (hf:Region.free md ops listed i=true) (hr:(Region.ready md ops listed).contains i=true) (hist:st.contains i=false) (hn:noneB st listed=false)
  (hQ:∀ c a w,Q (.panic c) (a.put oi.dst v) w->Q (.panic c) a w) (hy:YieldsIf P ops Z oi v a) (hZ:Z w)
  (h:anyT P md ops Q Z S st f (listed.setIfInBounds i true) (a.put oi.dst v) w):anyT P md ops Q Z S st (f+1) listed a w:=
 takeP hi hs hf hr hist hQ hy hZ (fun hx=>by
  have:noneB st listed=true:=List.all_eq_true.2 fun s hs=>by simpa using hx s hs
  rw [this] at hn;cases hn) h
theorem one{i:Nat}{o:Oper}{f:Nat}{listed:Array Bool}{a:Act}{w:World}(hr:Region.ready md ops listed=[i])(ho:ops[i]?=some o)
  (h:∀ K:Act->World->Prop,Shut (∀ a' w',Z w'->S w'->anyT P md ops Q Z S st f (listed.setIfInBounds i true) a' w'->K a' w')->if Region.wanted o (yielded ops a.tmps)=true then Oper.wp P o a w K Q else K (a.put o.dst undef) w):anyT P md ops Q Z S st (f+1) listed a w:=
 ⟨fun h0=>V26,fun j hj=>by
  rw [hr] at hj;obtain rfl:=List.mem_singleton.1 hj;exact wpOp_step ho fun K hK=>h K fun a' w' hZ hS hW=>hK a' w' ⟨⟨hZ,fun _=>hS⟩,hW⟩⟩
theorem oneS{i:Nat}{o:Oper}{f:Nat}{listed:Array Bool}{a:Act}{w:World}(hr:Region.ready md ops listed=[i])(hist:noneB st (listed.setIfInBounds i true)=false)(ho:ops[i]?=some o)
  (h:∀ K:Act->World->Prop,Shut (∀ a' w',Z w'->anyT P md ops Q Z S st f (listed.setIfInBounds i true) a' w'->K a' w')->if Region.wanted o (yielded ops a.tmps)=true then Oper.wp P o a w K Q else K (a.put o.dst undef) w):anyT P md ops Q Z S st (f+1) listed a w:=
 ⟨fun h0=>V26,fun j hj=>by
  rw [hr] at hj;obtain rfl:=List.mem_singleton.1 hj;refine wpOp_step ho fun K hK=>h K fun a' w' hZ hW=>hK a' w' ⟨⟨hZ,fun hx=>?_⟩,hW⟩
  have:noneB st (listed.setIfInBounds j true)=true:=List.all_eq_true.2 fun s hs=>by simpa using hx s hs
  rw [this] at hist;cases hist⟩
theorem done{f:Nat}{listed:Array Bool}{a:Act}{w:World}(hr:Region.ready md ops listed=[])(h:Q .normal a w):anyT P md ops Q Z S st f listed a w:=by
 cases f with
 | zero=>exact ⟨hr,h⟩
 | succ f=>exact ⟨fun _=>h,fun i hi=>by rw [hr] at hi;cases hi⟩
theorem wp_region{id:Nat}{a:Act}{w:World}(hm:P.follows .mixedOrders=true)(h:anyT P .any ops Q Z S st ops.size (Array.replicate ops.size false) a w.drew):(Code.region id ops true).wp P Q a w:=
 wp_region_any hm (any_of _ _ _ _ h)
end
end HT
namespace Fl
open Go Go.ChangeShapes Go.WideShapes Go.ChangeAt Go.RowKit Lx Args Pa Sh Go.Proofs.YtcgibpdjfgjldaaGreatDoor.Nm
/-! A loop's variable. -/
def NumP(w:World)(lo:Lo)(s:Bs)(e:Ending)(w':World):Prop:=e = .returned (.tuple #[.int .u32 (loN (lo s)),.bool (lo s).isSome])/\Below w.heap.size w w'
theorem number(w:World)(b n:Nat)(kn:Kw)(h:MpW w b n kn)(s:Bs)(hs:s.length<=maxLen) :
  Calls Tryz.prog 149 #[.map (some b),.string ⟨s.toArray⟩] w (NumP w (looB kn) s):=by
 have hrun:=q2H h hs;unfold wkV at hrun;rw [wkAt_lo,q3s] at hrun;obtain ⟨w1,hw1,hb1,hX1⟩:=alK w #[.bool (secB kn s),.bool (looB kn s).isSome,.int .u32 (loN (looB kn s))] 180;have HB:=Hi hb1;have HW:=Hi hw1;obtain ⟨c0,c1,c2,f0,f1,f2⟩:=Blk.c3 hX1;unfold NumP;clear h hw1 hb1 hX1;generalize secB kn s=q at *;generalize (looB kn s).isSome=q1 at *;generalize loN (looB kn s)=q2 at *;go_enter Tryz.func149,Tryz.ntmps149;go_upto_region 2 with fail
 rw [HW.out]
 go_region
 all_goals (
  go_wp2_with fail
  go_ret2
  exact ⟨rfl,Below.drew HB.out⟩)
/-! Texts in a row. -/
theorem sindex(A:Option Addr)(c:Nat)(l:List Bs)(a:Bs)(w:World)(hA:Lies w A (l.map strV))(hl:l.length<=100) :
  Calls Tryz.prog 188 #[.slice A l.length c,.string ⟨a.toArray⟩] w fun e w'=>∃ r:Int,e = .returned (.int .i64 r)/\l.contains a=decide (0<=r)/\Below w.heap.size w w':=by
 have HA:=Hi hA;clear hA;go_enter Tryz.func188,Tryz.ntmps188;go_wp2_with fail
 go_loopw [8] (fun vi wr=>∃ i:Nat,i<=l.length/\vi = .int .i64 (i:Int)/\Hid (Below w.heap.size w wr)/\Hid (∀ j,j < i->l[j]?≠some a)) (fun vi _=>l.length - (intOf vi).toNat)
 case atStart=>exact ⟨0,V0,rfl,Hi (Below.refl _ _),Hi fun j hj=>absurd hj V0⟩
 case round=>
  obtain ⟨i,hi,rfl,HH,HQ⟩:=hrel;by_cases hlt:i < l.length
  ·obtain ⟨p,hp⟩:∃ p,l[i]?=some p:=⟨_,List.getElem?_eq_getElem hlt⟩;have f1:(l.map strV)[i]?=some (.string ⟨p.toArray⟩):=Vs;obtain ⟨b,o,rfl,_,hc1⟩:=(HA.out.below HH.out).at_ f1;have e1:=hc1 _ _ f1;by_cases hpa:a=p
   ·exact V3m
   ·have HN:=Hi (show ∀ j,j < i+1->l[j]?≠some a from fun j hj=>by
     by_cases h:j < i
     ·exact HQ.out j h
     ·obtain rfl:j=i:=by omega
      rw [hp];intro h;exact hpa (Option.some.inj h).symm)
    have hne:(a==p)=false:=by simpa using hpa
    exact V3s
  ·exact V2H
theorem scontains(A:Option Addr)(c:Nat)(l:List Bs)(a:Bs)(w:World)(hA:Lies w A (l.map strV))(hl:l.length<=100) :
  Calls Tryz.prog 161 #[.slice A l.length c,.string ⟨a.toArray⟩] w fun e w'=>e = .returned (.bool (l.contains a))/\Below w.heap.size w w':=by
 have HI:=Hi (sindex A c l a w hA hl);clear hA;generalize l.contains a=res at HI ⊢;go_enter Tryz.func161,Tryz.ntmps161;go_wp2_with fail
 refine HI.out.mono ?_;rintro e w1 ⟨r,rfl,hr,hb⟩;subst hr;have HB:=Hi hb;clear hb;go_wp2_with fail
 go_ret;exact ⟨rfl,HB.out⟩
/-! A node's form. -/
theorem hasForm(w:World)(k a:Int)(s:Bs)(n:Nat)(A:Option Addr)(la cA:Nat)(B:Option Addr)(lb cB:Nat)(m:Nat)(G:Option Addr)(c:Nat)(sg:List Bs)(hG:Lies w G (sg.map strV))(hl:sg.length<=100) :
  Calls Tryz.prog 130 #[nzA k a s n A la cA B lb cB,.int .i64 (m:Int),.slice G sg.length c] w (TellP w (decide (la=m) && sg.contains s)):=by
 obtain ⟨w1,hw1,hb1,hX1,_⟩:=q05 w (nB k a s n A la cA B lb cB);have HC:=Hi (scontains G c sg s w1 (hG.below hb1) hl);obtain ⟨⟨e0,e1,e2,e3,e4,e5⟩,z0,z1,z2,z3,z4,z5⟩:=Blk.c6 hX1;have HB:=Hi hb1;have HW:=Hi hw1;have hml:((la:Int)==(m:Int))=decide (la=m):=by
  cases h:decide (la=m) <;> simp at h ⊢ <;> omega
 clear hG hw1 hb1 hX1;generalize sg.contains s=q at *;go_enter Tryz.func130,Tryz.ntmps130;cases hd:decide (la=m) with
 | false=>
  rw [hd] at hml;go_wp2_with fail
  rw [HW.out];exact V3H
 | true=>
  rw [hd] at hml;go_wp2_with fail
  rw [HW.out];refine HC.out.mono ?_;rintro e w2 ⟨rfl,hb2⟩;have HB2:=Hi (HB.out.trans (hb2.mono HB.out.size));clear hb2;exact V1K
theorem q3u(w:World)(l:List Bs):∃ w1,w.alloc (.cells (l.map strV).toArray 9)=w1/\Below w.heap.size w w1/\Lies w1 (some ⟨w.heap.size,0,none⟩) (l.map strV):=
 ⟨_,rfl,(Below.refl _ _).alloc (Nat.le_refl _) _,q07 _ _ _⟩
abbrev nuV(b:Nat):Value:=.func (.func 149) #[.map (some b)] #[]
def nvQ:Bool×Nat->Value
 | (false,b)=>nuV b
 | (true,p)=>.func (.func 70) #[] #[.pointer (some ⟨p,0,none⟩)]
def nuF:Bool×Nat->Nat
 | (false,_)=>149
 | (true,_)=>70
def nuA:Bool×Nat->Bs->Array Value
 | (false,b),s=>#[.map (some b),.string ⟨s.toArray⟩]
 | (true,p),s=>#[.string ⟨s.toArray⟩,.pointer (some ⟨p,0,none⟩)]
structure NuI(q:Bool×Nat)(lo:Lo)(I:World->Prop):Prop where
 mono:∀ {w w':World},I w->Below w.heap.size w w'->I w'
 run:∀ w,I w->∀ s:Bs,s.length<=maxLen->Calls Tryz.prog (nuF q) (nuA q s) w (NumP w lo s)
theorem mpI(b q:Nat)(kn:Kw):NuI (false,b) (looB kn) (fun w=>MpW w b q kn) where
 mono:=fun h hb=>h.upd (Upd.of_below hb fun _=>False) id
 run:=fun w h s hs=>number w b q kn h s hs
theorem fitsQ(w:World)(q:Bool×Nat)(lo:Lo)(I:World->Prop)(hI:NuI q lo I)(h:I w)(k a:Int)(s:Bs)(hs:s.length<=maxLen)(n:Nat)(A:Option Addr)(la cA:Nat)(B:Option Addr)(lb cB:Nat) :
  Calls Tryz.prog 105 #[nzA k a s n A la cA B lb cB,nvQ q] w (TellP w (fitB lo k s la)):=by
 obtain ⟨w1,hw1,hb1,hX1,hs1⟩:=q05 w (nB k a s n A la cA B lb cB);have HN:=Hi (hI.run w1 (hI.mono h hb1) s hs);obtain ⟨w2,hw2,hb2,hL2⟩:=q3u w1 sgU;obtain ⟨w3,hw3,hb3,hL3⟩:=q3u w1 sgB;obtain ⟨w4,hw4,hb4,hL4⟩:=q3u w1 sgS;rw [hs1] at hL2 hL3 hL4;have HU:=Hi (hasForm w2 k a s n A la cA B lb cB 1 _ 2 sgU hL2 V2);have HF:=Hi (hasForm w3 k a s n A la cA B lb cB 2 _ 5 sgB hL3 V2);have HS:=Hi (hasForm w4 k a s n A la cA B lb cB 2 _ 3 sgS hL4 V2);obtain ⟨⟨e0,e1,e2,e3,e4,e5⟩,z0,z1,z2,z3,z4,z5⟩:=Blk.c6 hX1;have HB:=Hi hb1;have HW:=Hi hw1;have HW2:=Hi hw2;have HW3:=Hi hw3;have HW4:=Hi hw4;have HB2:=Hi (hb1.trans (hb2.mono hb1.size));have HB3:=Hi (hb1.trans (hb3.mono hb1.size));have HB4:=Hi (hb1.trans (hb4.mono hb1.size));obtain ⟨res,hres⟩:∃ res,fitB (lo) k s la=res:=⟨_,rfl⟩;have HRES:=Hi hres;rw [hres];clear h hw1 hb1 hX1 hw2 hb2 hL2 hw3 hb3 hL3 hw4 hb4 hL4 hs1 hres;unfold fitB at HRES;by_cases hk1:k = 1
 ·subst hk1;have HR:=Hi (show (lo s).isSome=res from V0h);unfold NumP at HN;rw [HR.out] at HN;clear HR HRES;generalize loN (lo s)=q2 at HN;clear HU HF HS HW2 HW3 HW4 HB2 HB3 HB4;rcases q with ⟨_ | _,b⟩
  ·have hen:∀ w:World,(callFunc 149 #[.map (some b),.string ⟨s.toArray⟩]).run Tryz.prog w = .ok (.enter 149 #[.map (some b),.string ⟨s.toArray⟩]) w:=fun _=>by kernel_rfl
   show Calls Tryz.prog 105 #[nzA 1 a s n A la cA B lb cB,.func (.func 149) #[.map (some b)] #[]] w _;go_enter Tryz.func105,Tryz.ntmps105;go_wp2_with fail
   rw [HW.out];refine (show Calls Tryz.prog 149 #[.map (some b),.string ⟨s.toArray⟩] w1 _ from HN.out).mono ?_;exact V3J
  ·have hen:∀ w:World,(callFunc 70 #[.string ⟨s.toArray⟩,.pointer (some ⟨b,0,none⟩)]).run Tryz.prog w = .ok (.enter 70 #[.string ⟨s.toArray⟩,.pointer (some ⟨b,0,none⟩)]) w:=fun _=>by kernel_rfl
   show Calls Tryz.prog 105 #[nzA 1 a s n A la cA B lb cB,.func (.func 70) #[] #[.pointer (some ⟨b,0,none⟩)]] w _;go_enter Tryz.func105,Tryz.ntmps105;go_wp2_with fail
   rw [HW.out];refine (show Calls Tryz.prog 70 #[.string ⟨s.toArray⟩,.pointer (some ⟨b,0,none⟩)] w1 _ from HN.out).mono ?_;exact V3J
 go_enter Tryz.func105,Tryz.ntmps105;by_cases hk0:k = 0
 ·subst hk0;have HR:=Hi (show true=res from V01);go_wp2_with fail
  rw [HW.out];go_ret;exact ⟨VL,HB.out⟩
 by_cases hk2:k = 2
 ·subst hk2;have HR:=Hi (show (decide (la = 1) && sgU.contains s)=res by rw [<-HRES.out,if_neg V2,if_neg V2,if_pos rfl]);rw [HR.out] at HU;go_wp2_with fail
  rw [HW.out];rw [show w1.alloc (.cells #[.string ⟨#[126]⟩,.string ⟨#[45]⟩] 9)=w2 from HW2.out];refine (show Calls Tryz.prog 130 #[nzA 2 a s n A la cA B lb cB,.int .i64 1,.slice (some ⟨w.heap.size+1,0,none⟩) 2 2] w2 _ from HU.out).mono ?_;rintro e w5 ⟨rfl,hb5⟩;have HB5:=Hi (HB2.out.trans (hb5.mono HB2.out.size));exact V0e
 by_cases hk3:k = 3
 ·subst hk3;have HR:=Hi (show (decide (la = 2) && sgB.contains s)=res by rw [<-HRES.out,if_neg V2,if_neg V2,if_neg V2,if_pos rfl]);rw [HR.out] at HF;go_wp2_with fail
  rw [HW.out];rw [show w1.alloc (.cells #[.string ⟨#[43]⟩,.string ⟨#[45]⟩,.string ⟨#[38]⟩,.string ⟨#[124]⟩,.string ⟨#[94]⟩] 9)=w3 from HW3.out];refine (show Calls Tryz.prog 130 #[nzA 3 a s n A la cA B lb cB,.int .i64 2,.slice (some ⟨w.heap.size+1,0,none⟩) 5 5] w3 _ from HF.out).mono ?_;rintro e w5 ⟨rfl,hb5⟩;have HB5:=Hi (HB3.out.trans (hb5.mono HB3.out.size));exact V0e
 by_cases hk4:k = 4
 ·subst hk4;have HR:=Hi (show (decide (la = 2) && sgS.contains s)=res by rw [<-HRES.out,if_neg V2,if_neg V2,if_neg V2,if_neg V2,if_pos rfl]);rw [HR.out] at HS;go_wp2_with fail
  rw [HW.out];rw [show w1.alloc (.cells #[.string ⟨#[60,60]⟩,.string ⟨#[62,62]⟩,.string ⟨#[60,60,60]⟩] 9)=w4 from HW4.out];refine (show Calls Tryz.prog 130 #[nzA 4 a s n A la cA B lb cB,.int .i64 2,.slice (some ⟨w.heap.size+1,0,none⟩) 3 3] w4 _ from HS.out).mono ?_;rintro e w5 ⟨rfl,hb5⟩;have HB5:=Hi (HB4.out.trans (hb5.mono HB4.out.size));exact V0e
 have HR:=Hi (show false=res by rw [<-HRES.out,if_neg hk0,if_neg hk1,if_neg hk2,if_neg hk3,if_neg hk4]);have i0:(k==0)=false:=V4;have i1:(k==1)=false:=V4;have i2:(k==2)=false:=V4;have i3:(k==3)=false:=V4;have i4:(k==4)=false:=V4;clear hk0 hk1 hk2 hk3 hk4;go_wp2_with fail
 rw [HW.out];go_ret;exact ⟨VL,HB.out⟩
end Fl
namespace Args
open Go Go.RowKit
theorem q03{P:Program}{w:World}{ty:TypeId}{p:Addr}{v:Value}(ha:(isAgg ty).run P w = .ok false w)(hc:w.cell? p=some v):(loadVar ty p).run P w = .ok v w:=by
 unfold loadVar;rw [Sem.run_bind,ha];simp only [Result.andThen];simp [load,Sem.run,hc]
theorem q33{fn:Func}{p u:Tmp}{ty:TypeId}(h:fn.results = #[.cell p ty,.tmp u]){P:Program}(tmps:Array Value)(w:World)(g:Nat)(v:Value)
  (hp:tmps.getD p undef = .pointer (some ⟨g,0,none⟩)) (hL:(loadVar ty ⟨g,0,none⟩).run P w = .ok v w) :
  (results fn tmps).run P w = .ok (.tuple #[v,tmps.getD u undef]) w:=by
 have hp':tmps[p]?.getD undef = .pointer (some ⟨g,0,none⟩):=VF;simp [results,h,hp',asAddr,hL]
theorem q1b{fn:Func}{p q:Tmp}{ty tz:TypeId}(h:fn.results = #[.cell p ty,.cell q tz]){P:Program}(tmps:Array Value)(w:World)(g g2:Nat)(v v2:Value)
  (hp:tmps.getD p undef = .pointer (some ⟨g,0,none⟩)) (hq:tmps.getD q undef = .pointer (some ⟨g2,0,none⟩))
  (hL:(loadVar ty ⟨g,0,none⟩).run P w = .ok v w) (hM:(loadVar tz ⟨g2,0,none⟩).run P w = .ok v2 w) :
  (results fn tmps).run P w = .ok (.tuple #[v,v2]) w:=by
 have hp':tmps[p]?.getD undef = .pointer (some ⟨g,0,none⟩):=VF;have hq':tmps[q]?.getD undef = .pointer (some ⟨g2,0,none⟩):=by simpa using hq
 simp [results,h,hp',hq',asAddr,hL,hM]
theorem q1N{fn:Func}{p q r:Tmp}{tx ty tz:TypeId}(h:fn.results = #[.cell p tx,.cell q ty,.cell r tz]){P:Program}(tmps:Array Value)(w:World)(g1 g2 g3:Nat)(v1 v2 v3:Value)
  (hp:tmps.getD p undef = .pointer (some ⟨g1,0,none⟩)) (hq:tmps.getD q undef = .pointer (some ⟨g2,0,none⟩)) (hr:tmps.getD r undef = .pointer (some ⟨g3,0,none⟩))
  (h1:(loadVar tx ⟨g1,0,none⟩).run P w = .ok v1 w) (h2:(loadVar ty ⟨g2,0,none⟩).run P w = .ok v2 w) (h3:(loadVar tz ⟨g3,0,none⟩).run P w = .ok v3 w) :
  (results fn tmps).run P w = .ok (.tuple #[v1,v2,v3]) w:=by
 have hp':tmps[p]?.getD undef = .pointer (some ⟨g1,0,none⟩):=VF;have hq':tmps[q]?.getD undef = .pointer (some ⟨g2,0,none⟩):=by simpa using hq
 have hr':tmps[r]?.getD undef = .pointer (some ⟨g3,0,none⟩):=by simpa using hr
 simp [results,h,hp',hq',hr',asAddr,h1,h2,h3]
end Args
end Go.Proofs.YtcgibpdjfgjldaaGreatDoor
