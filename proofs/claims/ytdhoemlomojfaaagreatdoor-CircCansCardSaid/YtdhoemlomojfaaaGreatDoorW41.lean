/- DERIVED. NmBd, NmChk. By an AI agent. -/
import Derived.Test.YtdhoemlomojfaaaGreatDoorW40
import Derived.Test.YtdhoemlomojfaaaGreatDoorW17
import Derived.Test.YtdhoemlomojfaaaGreatDoorW18
import Derived.Test.YtdhoemlomojfaaaGreatDoorW21
import Derived.Test.YtdhoemlomojfaaaGreatDoorW01
import Derived.Test.YtdhoemlomojfaaaGreatDoorW26
import Derived.Carry
import Derived.Deep.Cut
set_option maxRecDepth 100000
set_option maxHeartbeats 4000000
set_option linter.unusedVariables false
set_option linter.unusedSimpArgs false
namespace Go.Proofs.YtdhoemlomojfaaaGreatDoor.Nm
open Go Lx Pa Sh
theorem nrun_le(base:Nat):∀ (l:List UInt8) (n m:Nat),n≤4294967296→Num.nrun base l n=some m→m≤4294967296
 | [],n,m,h,e=>by
  unfold Num.nrun at e;cases e;exact h
 | c :: l,n,m,h,e=>by
  unfold Num.nrun at e;split at e
  ·exact nrun_le base l _ m (Nat.min_le_right ..) e
  ·cases e
theorem numV_lt(b:Bs):(numV b).1 < 4294967296:=by
 unfold numV Num.numR;split
 ·decide
 ·split
  ·decide
  ·next h=>
   have:=nrun_le _ _ _ _ (by decide) h;split
   ·decide
   ·simp only;omega
def pw:List Bs→Nat
 | []=>0
 | p :: ps=>p.length+1+pw ps
mutual
def wt:Tr→Nat
 | .mk _ _ s _ ps l=>1+s.length+pw ps+wts l
def wts:List Tr→Nat
 | []=>0
 | x :: l=>wt x+wts l
end
def tw:List Tk→Nat
 | []=>0
 | t :: l=>t.s.length+1+tw l
theorem pw_app:∀ (a b:List Bs),pw (a ++ b)=pw a+pw b
 | [],b=>by simp [pw]
 | p :: a,b=>by
  show p.length+1+pw (a ++ b)=p.length+1+pw a+pw b;rw [pw_app a b];omega
theorem wts_app:∀ (a b:List Tr),wts (a ++ b)=wts a+wts b
 | [],b=>by simp [wts]
 | x :: a,b=>by
  show wt x+wts (a ++ b)=wt x+wts a+wts b;rw [wts_app a b];omega
theorem wt_put(x:Tr)(a:Nat):wt (x.put a)=wt x:=by cases x;rfl
theorem wts_put(a:Nat):∀ l:List Tr,wts (l.map (·.put a))=wts l
 | []=>rfl
 | x :: l=>by
  show wt (x.put a)+wts (l.map _)=wt x+wts l;rw [wt_put,wts_put a l]
def baseN:NT→Nat
 | .more _ x=>wt x
 | .args l=>wts l
 | .fin _ _ s ps=>1+s.length+pw ps
 | .inners l=>wts l
 | .stmts l=>wts l
 | _=>0
def sglN:NT→Prop
 | .lev _=>True
 | .more _ _=>True
 | _=>False
def Ct(p:Prop)(b:Nat):OO→Prop
 | some (.ok xs r)=>wts xs+tw r≤b∧(p→∃ x l,xs=x :: l)
 | _=>True
section
variable {p p' : Prop} {b b' : Nat}
theorem ct_wrong(l:List Tk)(e:Nat):Ct p b (wrong l e):=trivial
theorem ct_if{c:Prop}[Decidable c]{o q:OO}(h1:c→Ct p b o)(h2:¬ c→Ct p b q):Ct p b (if c then o else q):=by
 by_cases h:c
 ·rw [if_pos h];exact h1 h
 ·rw [if_neg h];exact h2 h
theorem ct_bnd{o:OO}{f:List Tr→List Tk→OO}(h:Ct p b o)(hf:∀ xs r,wts xs+tw r≤b→(p→∃ x l,xs=x :: l)→Ct p' b' (f xs r)):Ct p' b' (bnd o f):=by
 rcases o with _ | ⟨xs,r⟩ | ⟨a,e⟩
 ·trivial
 ·exact hf xs r h.1 h.2
 ·trivial
theorem ct_up{o:OO}(h:Ct p b o)(hb:b≤b')(hp:p'→p):Ct p' b' o:=by
 rcases o with _ | ⟨xs,r⟩ | ⟨a,e⟩
 ·trivial
 ·exact ⟨Nat.le_trans h.1 hb,fun h'=>h.2 (hp h')⟩
 ·trivial
theorem ct_ok{xs:List Tr}{r:List Tk}(h:wts xs+tw r≤b)(hp:p→∃ x l,xs=x :: l):Ct p b (some (.ok xs r)):=⟨h,hp⟩
theorem ct_must{s:Bs}{l:List Tk}{f:List Tk→OO}(hf:∀ r,tw r+1≤tw l→Ct p b (f r)):Ct p b (must s l f):=by
 cases l with
 | nil=>trivial
 | cons t r=>exact ct_if (fun _=>hf r (by show tw r+1≤t.s.length+1+tw r;omega)) fun _=>ct_wrong _ _
theorem ct_name{l:List Tk}{f:Bs→List Tk→OO}(hf:∀ s r,s.length+1+tw r=tw l→Ct p b (f s r)):Ct p b (nameK l f):=by
 cases l with
 | nil=>trivial
 | cons t r=>exact ct_if (fun hk=>hf t.s r rfl) fun _=>ct_wrong _ _
theorem ct_names{f:List Bs→List Tk→OO}{c:Nat}(hf:∀ ps r,pw ps+tw r≤c→Ct p b (f ps r)):∀ (ps:List Bs) (l:List Tk),pw ps+tw l≤c→Ct p b (namesK ps l f)
 | _,[],_=>trivial
 | ps,[t],h=>by
  unfold namesK;refine ct_if (fun hk=>hf _ _ ?_) fun _=>ct_wrong _ _
  rw [pw_app];have:tw [t]=t.s.length+1+tw []:=rfl;show pw ps+(t.s.length+1+0)+tw []≤c;omega
 | ps,t :: u :: r,h=>by
  unfold namesK;have e:tw (t :: u :: r)=t.s.length+1+(u.s.length+1+tw r):=rfl;have e2:pw (ps ++ [t.s])=pw ps+(t.s.length+1+0):=pw_app _ _;have e3:tw (u :: r)=u.s.length+1+tw r:=rfl;refine ct_if (fun hk=>ct_if (fun _=>ct_names hf _ r (by omega)) fun _=>hf _ _ (by omega)) fun _=>ct_wrong _ _
end
theorem wts_one(x:Tr):wts [x]=wt x:=by show wt x+0=_;omega
theorem tw_cons(t:Tk)(l:List Tk):tw (t :: l)=t.s.length+1+tw l:=rfl
theorem wts_cons(x:Tr)(l:List Tr):wts (x :: l)=wt x+wts l:=rfl
theorem wt_mk(k a:Nat)(s:Bs)(n:Nat)(ps:List Bs)(l:List Tr):wt (.mk k a s n ps l) = 1+s.length+pw ps+wts l:=rfl
theorem pw_nil:pw [] = 0:=rfl
theorem wts_nil:wts [] = 0:=rfl
theorem pF_much{num:Bs→Nat×Nat}:∀ (f:Nat) (nt:NT) (d:Nat) (l:List Tk),Ct (sglN nt) (baseN nt+tw l) (pF num f nt d l):=by
 intro f
 induction f with
 | zero=>intros;trivial
 | succ f ih=>
  intro nt d l;cases nt with
  | lev n=>
   unfold pF;refine ct_if (fun _=>ct_bnd (ih (.lev (n+1)) _ _) fun xs r hx hs=>?_) fun _=>?_
   ·obtain ⟨x,m,rfl⟩:=hs trivial;refine ct_up (ih (.more n x) _ _) ?_ (fun h=>h);simp only [baseN,wts_cons] at hx ⊢;omega
   cases l with
   | nil=>trivial
   | cons t r=>
   refine ct_if (fun _=>ct_wrong _ _) fun _=>ct_if (fun hs=>?_) fun _=>ct_if (fun hk=>?_) fun _=>ct_if (fun hs=>?_) fun _=>ct_name fun s r hs=>?_
   ·refine ct_bnd (ih (.lev 5) _ _) fun xs r' hx _=>⟨?_,fun _=>⟨_,_,rfl⟩⟩
    simp only [baseN] at hx;simp only [baseN,wts_one,wt_mk,tw_cons,pw_nil];omega
   ·refine ct_if (fun _=>⟨?_,fun _=>⟨_,_,rfl⟩⟩) fun _=>ct_wrong _ _
    simp only [baseN,wts_one,wt_mk,tw_cons,pw_nil,wts_nil,List.length_nil];omega
   ·refine ct_bnd (ih (.lev 0) _ _) fun xs r' hx hs=>ct_must fun r2 hr2=>⟨?_,fun _=>?_⟩
    ·rw [wts_put];simp only [baseN] at hx;simp only [baseN,tw_cons];omega
    ·obtain ⟨x,m,rfl⟩:=hs trivial;exact ⟨_,_,rfl⟩
   ·cases r with
    | nil=>
     refine ⟨?_,fun _=>⟨_,_,rfl⟩⟩;simp only [baseN,wts_one,wt_mk,pw_nil,wts_nil];omega
    | cons u r'=>
     refine ct_if (fun hu=>?_) fun _=>⟨?_,fun _=>⟨_,_,rfl⟩⟩
     ·refine ct_bnd (ih (.lev 0) _ _) fun xs r2 hx _=>ct_bnd (ih (.args xs) _ _) fun ys r3 hy _=>ct_must fun r4 hr4=>⟨?_,fun _=>⟨_,_,rfl⟩⟩
      simp only [baseN] at hx hy;simp only [tw_cons] at hs;simp only [baseN,wts_one,wt_mk,pw_nil,tw_cons];omega
     ·simp only [baseN,wts_one,wt_mk,pw_nil,wts_nil];omega
  | more n x=>
   unfold pF;cases l with
   | nil=>exact ⟨by simp only [baseN,wts_one];omega,fun _=>⟨_,_,rfl⟩⟩
   | cons t r=>
    refine ct_if (fun hs=>ct_bnd (ih (.lev (n+1)) _ _) fun ys r' hy _=>?_) fun _=>⟨by simp only [baseN,wts_one];omega,fun _=>⟨_,_,rfl⟩⟩
    refine ct_up (ih (.more n (.mk (if n = 3 then 4 else 3) x.place t.s 0 [] (x :: ys))) d r') ?_ (fun h=>h);simp only [baseN] at hy;simp only [baseN,wt_mk,wts_cons,pw_nil,tw_cons];omega
  | args xs=>
   unfold pF;cases l with
   | nil=>exact ⟨by simp only [baseN];omega,fun h=>h.elim⟩
   | cons t r=>
    refine ct_if (fun hs=>ct_bnd (ih (.lev 0) _ _) fun ys r' hy _=>?_) fun _=>⟨by simp only [baseN];omega,fun h=>h.elim⟩
    refine ct_up (ih (.args (xs ++ ys)) d r') ?_ (fun h=>h);simp only [baseN] at hy;simp only [baseN,wts_app,tw_cons];omega
  | fin k a s ps=>
   unfold pF;refine ct_bnd (ih (.lev 0) _ _) fun xs r hx _=>ct_must fun r' hr'=>⟨?_,fun h=>h.elim⟩
   simp only [baseN] at hx;simp only [baseN,wts_one,wt_mk];omega
  | inner=>
   unfold pF;cases l with
   | nil=>trivial
   | cons t r=>
    refine ct_if (fun _=>ct_wrong _ _) fun _=>ct_if (fun hs=>?_) fun _=>ct_name fun s r hs=>ct_must fun r2 hr2=>?_
    ·refine ct_name fun s r1 hs=>ct_must fun r2 h2=>ct_bnd (ih (.lev 0) _ _) fun xs r3 hx _=>ct_must fun r4 h4=>ct_bnd (ih (.lev 0) _ _) fun ys r5 hy _=>ct_must fun r6 h6=>ct_bnd (ih (.inners (xs ++ ys)) _ _) fun zs r7 hz _=>⟨?_,fun h=>h.elim⟩
     simp only [baseN,wts_app] at hx hy hz;simp only [baseN,wts_one,wt_mk,pw_nil,tw_cons];omega
    ·refine ct_up (ih (.fin 10 t.at_ s []) d r2) ?_ (fun h=>h);simp only [baseN,pw_nil];omega
  | inners zs=>
   unfold pF;cases l with
   | nil=>trivial
   | cons t r=>
    refine ct_if (fun _=>⟨?_,fun h=>h.elim⟩) fun _=>ct_bnd (ih .inner _ _) fun xs r' hx _=>?_
    ·simp only [baseN,tw_cons];omega
    ·refine ct_up (ih (.inners (zs ++ xs)) d r') ?_ (fun h=>h);simp only [baseN] at hx;simp only [baseN,wts_app];omega
  | stmt=>
   unfold pF;cases l with
   | nil=>trivial
   | cons t r=>
    have fin:∀ (k:Nat) (s:Bs) (ps:List Bs) (r2:List Tk),1+s.length+pw ps+tw r2≤tw (t :: r)→Ct (sglN .stmt) (baseN .stmt+tw (t :: r)) (pF num f (.fin k t.at_ s ps) d r2):=fun k s ps r2 h=>ct_up (ih (.fin k t.at_ s ps) d r2) (by simp only [baseN];omega) (fun h=>h)
    have e0:=tw_cons t r;refine ct_if (fun _=>?_) fun _=>ct_if (fun _=>?_) fun _=>ct_if (fun _=>?_) fun _=>ct_if (fun _=>?_) fun _=>ct_if (fun _=>?_) fun _=>?_
    ·exact ct_names (c:=tw r) (fun ps r1 h1=>ct_must fun r2 h2=>ct_ok (by simp only [baseN,wts_one,wt_mk,wts_nil,List.length_nil];omega) fun h=>h.elim) [] r (by simp only [pw_nil];omega)
    ·exact ct_names (c:=tw r) (fun ps r1 h1=>ct_must fun r2 h2=>ct_ok (by simp only [baseN,wts_one,wt_mk,wts_nil,List.length_nil];omega) fun h=>h.elim) [] r (by simp only [pw_nil];omega)
    ·exact ct_name fun s r1 h1=>ct_must fun r2 h2=>fin 8 s [] r2 (by simp only [pw_nil];omega)
    ·exact ct_name fun s r1 h1=>ct_must fun r2 h2=>fin 9 s [] r2 (by simp only [pw_nil];omega)
    ·exact ct_name fun s r1 h1=>ct_must fun r2 h2=>ct_names (c:=tw r2) (fun ps r3 h3=>ct_must fun r4 h4=>ct_must fun r5 h5=>fin 12 s ps r5 (by omega)) [] r2 (by simp only [pw_nil];omega)
    ·exact ct_up (ih .inner 0 (t :: r)) (by simp only [baseN];omega) (fun h=>h)
  | stmts xs=>
   unfold pF;cases l with
   | nil=>trivial
   | cons t r=>
    refine ct_if (fun _=>⟨by simp only [baseN];omega,fun h=>h.elim⟩) fun _=>ct_bnd (ih .stmt _ _) fun ys r' hy _=>?_
    refine ct_up (ih (.stmts (xs ++ ys)) d r') ?_ (fun h=>h);simp only [baseN] at hy;simp only [baseN,wts_app];omega
theorem tw_le(b:Nat):∀ (l:List Tk),(∀ t∈l,t.s.length≤b)→tw l≤l.length * (b+1)
 | [],_=>by simp [tw]
 | t :: l,h=>by
  have h1:=tw_le b l fun u hu=>h u (by simp [hu])
  have h2:=h t (by simp);rw [tw_cons,List.length_cons,Nat.succ_mul];omega
theorem tw_words{s:Bs}(h:(wordsL s).er = 0):tw (wordsL s).l≤80004000:=by
 obtain ⟨_,h2,h3⟩:=words_gt h;have h1:=tw_le 20000 (wordsL s).l fun t ht=>(h2 t ht).2
 have:(wordsL s).l.length * 20001≤4000 * 20001:=Nat.mul_le_mul_right _ h3;omega
theorem pw_mem:∀ {ps:List Bs} {p:Bs},p∈ps→p.length≤pw ps
 | q :: ps,p,h=>by
  show _≤q.length+1+pw ps;rcases List.mem_cons.1 h with rfl | h
  ·omega
  ·have:=pw_mem h;omega
theorem pw_len:∀ ps:List Bs,ps.length≤pw ps
 | []=>Nat.le_refl _
 | p :: ps=>by
  have:=pw_len ps;show ps.length+1≤p.length+1+pw ps;omega
mutual
theorem lenz_wt:∀ (x:Tr),wt x≤maxLen→lenz (embz x)
 | .mk k a s n ps l,h=>by
  rw [wt_mk] at h;unfold embz lenz;exact ⟨by omega,fun p hp=>by have:=pw_mem hp;omega,lenzs_wt l (by omega)⟩
theorem lenzs_wt:∀ (l:List Tr),wts l≤maxLen→lenzs (embs l)
 | [],_=>by unfold embs lenzs;trivial
 | x :: l,h=>by
  rw [wts_cons] at h;unfold embs lenzs;exact ⟨lenz_wt x (by omega),lenzs_wt l (by omega)⟩
end
mutual
theorem nbz_wt:∀ (x:Tr),nbz (embz x)≤wt x
 | .mk k a s n ps l=>by
  rw [wt_mk];have:=nbzs_wt l;have:=pw_len ps;unfold embz nbz;omega
theorem nbzs_wt:∀ (l:List Tr),nbzs (embs l)≤wts l
 | []=>by unfold embs nbzs;exact Nat.zero_le _
 | x :: l=>by
  rw [wts_cons];have:=nbz_wt x;have:=nbzs_wt l;unfold embs nbzs;omega
end
theorem prog_z{s:Bs}{x:Tr}{t:Tk}{r:List Tk}(he:(wordsL s).er = 0)(h:ProgR (wordsL s).l (.ok [x] (t :: r))):lenz (embz x)∧nbz (embz x)≤1099511627776∧okPs 0 (lz (embz x)):=by
 obtain ⟨zs,e1,h1,_⟩:=h;simp only [List.cons.injEq,and_true] at e1;subst e1;obtain ⟨f,hf⟩:=h1.at_;have hm:=pF_much (num:=numV) f (.stmts []) 0 (wordsL s).l;rw [hf] at hm;have hw:=tw_words he;have hm1:=hm.1;have hwz:wts zs≤80004000:=by
  have:baseN (.stmts []) = 0:=rfl;omega
 refine ⟨lenz_wt _ ?_,?_,?_⟩
 ·rw [wt_mk];simp only [pw_nil,List.length_nil];unfold maxLen;omega
 ·have:=nbz_wt (.mk 13 (hdA (wordsL s).l) [] 0 [] zs);rw [wt_mk] at this;simp only [pw_nil,List.length_nil] at this;omega
 ·have hg:=pF_made (num:=numV) (Q:=fun _=>True) numV_lt f (.stmts []) 0 (wordsL s).l trivial (fun _ _ _=>trivial);rw [hf] at hg;obtain ⟨ys,e,hy⟩:=hg.1;have:zs=ys:=by simpa using e
  subst this;show okPs 0 (embs zs);exact okPs_gT hy
theorem prog_one{l:List Tk}{x x':Tr}{t t':Tk}{r r':List Tk}(h:ProgR l (.ok [x] (t :: r)))(h':ProgR l (.ok [x'] (t' :: r'))):x=x':=by
 obtain ⟨zs,e1,h1,_⟩:=h;obtain ⟨zs',e2,h2,_⟩:=h';have:=Rd.one h1 h2;cases this;simp only [List.cons.injEq,and_true] at e1 e2;rw [e1,e2]
theorem prog_ok_bad{l:Wd}{x:Tr}{t:Tk}{r:List Tk}{a er:Nat}(he:l.er = 0)(h:ProgR l.l (.ok [x] (t :: r)))(h':BadR ProgR l a er):False:=by
 obtain ⟨zs,e1,h1,t1,r1,e2,hk⟩:=h;rcases h' with ⟨h,_⟩ | ⟨_,h | ⟨xs,t',r',h,hk',_⟩⟩
 ·exact h he
 ·have:=Rd.one (show Rd numV (.stmts []) 0 l.l (.bad a er) from h) h1;cases this
 ·obtain ⟨zs',e3,h3,_⟩:=h;have:=Rd.one h1 h3;simp only [Out.ok.injEq] at this;rw [e2] at this;cases this.2;exact hk' hk
theorem prog_er{s:Bs}{a er:Nat}(h:BadR ProgR (wordsL s) a er):er≠0:=by
 rcases h with ⟨h,_,rfl⟩ | ⟨h0,h | ⟨_,_,_,_,_,_,rfl⟩⟩
 ·exact h
 ·obtain ⟨f,hf⟩:=(show Rd numV (.stmts []) 0 (wordsL s).l (.bad a er) from h).at_;have:=(tells h0 hf).2;omega
 ·decide
end Go.Proofs.YtdhoemlomojfaaaGreatDoor.Nm
namespace Go.Proofs.YtdhoemlomojfaaaGreatDoor.Nm
open Go Go.ChangeShapes Go.WideShapes Go.ChangeAt Go.RowKit Lx Args Pa Sh
theorem turned_size{w w':World}{b:Nat}(h:w.mapTurned w' b):w'.heap.size=w.heap.size:=by
 obtain ⟨es,clock,es',clock',_,rfl⟩:=h;simp [ChangeMaps.setBlock]
def nil3:Array Value:=#[.slice none 0 0,.slice none 0 0,.slice none 0 0]
def NaP(lo:Nat)(w:World)(vs vp vo:Value)(c:St):Prop:=
 w.ownsRow lo 9 1 vs c.se.length (c.se.map strV)∧w.ownsRow lo 9 1 vp c.pu.length (c.pu.map strV)∧w.ownsRow lo 158 3 vo c.ou.length (c.ou.flatMap laC)∧c.se.length≤1099511627776∧c.pu.length≤1099511627776∧c.ou.length≤1099511627776
def ChkP(w:World)(r:Rs)(e:Ending)(w':World):Prop:=
 match r with
 | .ok c=>∃ vs vp vo,e = .returned (.tuple #[.agg #[vs,vp,vo],.int .i64 0,.int .i64 0])∧NaP w.heap.size w' vs vp vo c∧Below w.heap.size w w'
 | .bad a=>e = .returned (.tuple #[.agg nil3,.int .i64 a,.int .i64 120])∧Below w.heap.size w w'
theorem szNm:(Tryz.prog.info? 65).map (·.size)=some 3:=by kernel_rfl
theorem results_ctt{fn:Func}{p q r:Tmp}{tx:TypeId}(h:fn.results = #[.cell p tx,.tmp q,.tmp r]){P:Program}(tmps:Array Value)(w:World)(g1:Nat)(v1:Value)
  (hp:tmps.getD p undef = .pointer (some ⟨g1,0,none⟩)) (h1:(loadVar tx ⟨g1,0,none⟩).run P w = .ok v1 w) :
  (results fn tmps).run P w = .ok (.tuple #[v1,tmps.getD q undef,tmps.getD r undef]) w:=by
 have hp':tmps[p]?.getD undef = .pointer (some ⟨g1,0,none⟩):=by simpa using hp
 simp [results,h,hp',asAddr,h1]
theorem resNm{g:Nat}{n:Array Value}{W:World}(hN:Blk W g 65 n)(hs:some 3=some n.size)(tmps:Array Value)(h2:tmps.getD 2 undef = .pointer (some ⟨g,0,none⟩)) :
  (results Tryz.f47 tmps).run Tryz.prog W = .ok (.tuple #[.agg n,tmps.getD 3 undef,tmps.getD 4 undef]) W:=
 results_ctt rfl tmps W g (.agg n) h2 (run_loadVar_row W g 65 65 n (0,0) _ hN Tryz.underlying65 rfl (szNm.trans hs))
theorem own_lo{w:World}{lo lo':Nat}{e:TypeId}{size n:Nat}{v:Value}{xs:List Value}(h:w.ownsRow lo e size v n xs)(hl:lo'≤lo):w.ownsRow lo' e size v n xs:=⟨h.1,h.2.imp id fun ⟨g,cap,cur,a,b,r⟩=>⟨g,cap,cur,a,Nat.le_trans hl b,r⟩⟩
theorem first_ck{w:World}{lo kb ob g:Nat}(hg:Blk w g 112 #[.slice none 0 0,.slice none 0 0,.slice none 0 0,.map (some kb),.map (some ob),.slice none 0 0])(hk:MpK w kb 1 init.kn)(ho:MpS w ob 0 (fun _=>false))(hlo:lo≤kb∧kb < ob∧ob < g):CK (fun b=>lo≤b) lo w g init 1:=by
 refine ⟨⟨_,_,_,_,kb,ob,hg,World.ownsRow_nil _ _ _ _,World.ownsRow_nil _ _ _ _,World.ownsRow_nil _ _ _ _,World.ownsRow_nil _ _ _ _,hk,ho.mono (by decide),?_,?_,by omega,by omega,by omega,by have:=hg.lt;omega⟩,⟨Nat.zero_le _,Nat.zero_le _,Nat.zero_le _,Nat.zero_le _⟩,fun s hs=>by cases hs⟩
 ·have h1:g≠kb:=by omega
  have h2:g≠ob:=by omega
  have h3:kb≠ob:=by omega
  unfold Dis;simp [Value.ownBlock,h1,h2,h3,Ne.symm h1,Ne.symm h2,Ne.symm h3]
 ·intro x hx b hb;simp only [List.mem_cons,List.not_mem_nil,or_false] at hx;rcases hx with rfl | rfl | rfl | rfl | rfl | rfl | rfl
  ·cases hb;omega
  ·cases hb;omega
  ·cases hb;omega
  ·cases hb
  ·cases hb
  ·cases hb
  ·cases hb
theorem check(z:Tz)(hlz:lenz z)(hm:nbz z≤1099511627776)(w:World)(k a:Int)(s:Bs)(n:Nat)(A:Option Addr)(la cA:Nat)(B:Option Addr)(lb cB:Nat)(hT:TIc True w z (nzC k a s n A la cA B lb cB)) :
  Calls Tryz.prog 47 #[nzA k a s n A la cA B lb cB] w (ChkP w (ckB z)):=by
 obtain ⟨k1,a1,s1,n1,ps,l⟩:=z;obtain ⟨rfl,rfl,rfl,rfl,rfl,rfl,hl,_,_,css,hL,hS⟩:=tIz_parts hT;have hck:ckB (.mk k a s n ps l)=stBs 0 l init:=rfl;rw [hck];obtain ⟨w1,hw1,hb1,hX1,hs1⟩:=a_box w (nB k a s n A l.length cA B ps.length cB);obtain ⟨w2,hw2⟩:∃ w2,w1.alloc (.cells nil3 65)=w2:=⟨_,rfl⟩;have hb2:Below w1.heap.size w1 w2:=by rw [←hw2];exact (Below.refl _ _).alloc (Nat.le_refl _) _
 have hR2:Blk w2 w1.heap.size 65 nil3:=by rw [←hw2];exact Blk.new _ _ _
 have hs2:w2.heap.size=w1.heap.size+1:=by rw [←hw2];simp
 rw [hs1] at hR2;obtain ⟨w3,hw3⟩:∃ w3,w2.alloc (.map #[] 0)=w3:=⟨_,rfl⟩;have hb3:Below w2.heap.size w2 w3:=by rw [←hw3];exact (Below.refl _ _).alloc (Nat.le_refl _) _
 have hs3:w3.heap.size=w2.heap.size+1:=by rw [←hw3];simp
 have hm3:MpK w3 w2.heap.size 0 (fun _=>none):=by rw [←hw3];exact MpK.made w2
 obtain ⟨kb,hkb⟩:∃ kb,w2.heap.size=kb:=⟨_,rfl⟩;have hmk1:(Instr.makeMap 108 none).run Tryz.prog w2 = .ok (.map (some kb)) w3:=by rw [←hw3,←hkb];exact run_makeMap _ _
 rw [hkb] at hm3;obtain ⟨w4,hrun,hm4,ht4⟩:=hm3.put (s:=sel) (by decide) (by decide) (1,3) (by decide) (by decide);have hrun':(Instr.mapUpdate 108 (.map (some kb)) (.string ⟨#[115,101,108]⟩) (.agg #[.int .i64 1,.int .i64 3])).run Tryz.prog w3 = .ok () w4:=hrun;have hs4:=turned_size ht4;have hu4:Upd (fun b=>b=kb) w3 w4:=turned_upd ht4 rfl;obtain ⟨w5,hw5⟩:∃ w5,w4.alloc (.map #[] 0)=w5:=⟨_,rfl⟩;have hb5:Below w4.heap.size w4 w5:=by rw [←hw5];exact (Below.refl _ _).alloc (Nat.le_refl _) _
 have hs5:w5.heap.size=w4.heap.size+1:=by rw [←hw5];simp
 have ho5:MpS w5 w4.heap.size 0 (fun _=>false):=by rw [←hw5];exact MpS.made w4
 obtain ⟨ob,hob⟩:∃ ob,w4.heap.size=ob:=⟨_,rfl⟩;have hmk2:(Instr.makeMap 110 none).run Tryz.prog w4 = .ok (.map (some ob)) w5:=by rw [←hw5,←hob];exact run_makeMap _ _
 rw [hob] at ho5;obtain ⟨w6,hw6⟩:∃ w6,w5.alloc (.cells #[.slice none 0 0,.slice none 0 0,.slice none 0 0,.map (some kb),.map (some ob),.slice none 0 0] 112)=w6:=⟨_,rfl⟩;have hb6:Below w5.heap.size w5 w6:=by rw [←hw6];exact (Below.refl _ _).alloc (Nat.le_refl _) _
 have hX6:Blk w6 w5.heap.size 112 #[.slice none 0 0,.slice none 0 0,.slice none 0 0,.map (some kb),.map (some ob),.slice none 0 0]:=by rw [←hw6];exact Blk.new _ _ _
 obtain ⟨g,hg⟩:∃ g,w5.heap.size=g:=⟨_,rfl⟩;rw [hg] at hX6;have hb26:Upd (fun b=>b=kb) w2 w6:=(((Upd.of_below hb3 _).trans hu4).trans (Upd.of_below hb5 _)).trans (Upd.of_below hb6 _);have hb06:Below w.heap.size w w6:=(hb1.trans (hb2.mono hb1.size)).trans (hb26.below (by omega) fun b hb=>by omega);have hR6:Blk w6 (w.heap.size+1) 65 nil3:=hR2.upd hb26 (by omega);have hN6:Blk w6 w.heap.size 62 (nB k a s n A l.length cA B ps.length cB):=(hX1.below hb2 hX1.lt).upd hb26 (by omega);have hK6:MpK w6 kb 1 init.kn:=(hm4.upd (Upd.of_below hb5 fun _=>False) id).upd (Upd.of_below hb6 fun _=>False) id;have hO6:MpS w6 ob 0 (fun _=>false):=ho5.upd (Upd.of_below hb6 fun _=>False) id;have hCK:CK (fun b=>w.heap.size+2≤b) (w.heap.size+2) w6 g init 1:=first_ck hX6 hK6 hO6 (by omega);have hnb:nbz (.mk k a s n ps l)=ps.length+1+nbzs l:=rfl;have HPR:=Hi (program w w6 (fun b=>w.heap.size+2≤b) (w.heap.size+2) g init 1 k a s n A cA B ps.length cB l css hb06 hL hS hl (lenz_parts hlz).2.2 (fun b hb=>by omega) hCK (by omega));have HW1:=Hi hw1;have HW2:=Hi hw2;have HW6:=Hi hw6;have HB6:=Hi hb06;have HR6:=Hi hR6;have HG:=Hi hg;obtain ⟨⟨e0,e1,e2,e3,e4,e5⟩,z0,z1,z2,z3,z4,z5⟩:=Blk.c6 hN6;obtain ⟨res,hres⟩:∃ res,stBs 0 l init=res:=⟨_,rfl⟩;rw [hres] at HPR ⊢;have hmm:1+nbzs l≤1099511627776:=by omega
 clear hT hL hS hl hlz hm hw1 hb1 hX1 hs1 hw2 hb2 hR2 hs2 hw3 hb3 hs3 hm3 hkb hm4 ht4 hs4 hu4 hw5 hb5 hs5 ho5 hob hw6 hb6 hX6 hg hb26 hb06 hR6 hN6 hK6 hO6 hCK hck hnb hrun hres;go_enter Tryz.func47,Tryz.ntmps47;go_upto_region 1 with fail
 rw [HW1.out];rw [show w1.alloc (.cells #[.slice none 0 0,.slice none 0 0,.slice none 0 0] 65)=w2 from HW2.out];go_upto_region 2 with fail
 rw [HW6.out,HG.out];go_wp2_with fail
 refine (show Calls Tryz.prog 57 #[.pointer (some ⟨g,0,none⟩),nzA k a s n A l.length cA B ps.length cB] w6 _ from HPR.out).mono ?_;intro e w7 h7;clear e0 e1 e2 e3 e4 e5 z0 z1 z2 z3 z4 z5 hmk1 hmk2 hrun';cases res with
 | bad a1=>
  obtain ⟨rfl,hu7⟩:=h7;have hR7:=HR6.out.upd hu7 (by omega);obtain ⟨q0,q1,q2,y0,y1,y2⟩:=Blk.c3 (show Blk w7 (w.heap.size+1) 65 #[.slice none 0 0,.slice none 0 0,.slice none 0 0] from hR7);have HB7:=Hi (HB6.out.trans (hu7.below HB6.out.size fun b hb=>by omega));have hRR:=Blk.put3 (show Blk w7 (w.heap.size+1) 65 #[.slice none 0 0,.slice none 0 0,.slice none 0 0] from hR7) (.slice none 0 0) (.slice none 0 0) (.slice none 0 0);have HRR:=Hi hRR;have HEND:=Hi (show ChkP w (.bad a1) (.returned (.tuple #[.agg nil3,.int .i64 a1,.int .i64 120])) (((w7.setCell ⟨w.heap.size+1,0,none⟩ (.slice none 0 0)).setCell ⟨w.heap.size+1,1,none⟩ (.slice none 0 0)).setCell ⟨w.heap.size+1,2,none⟩ (.slice none 0 0)) from
   ⟨rfl,((HB7.out.setCell (p:=⟨w.heap.size+1,0,none⟩) (Nat.le_succ _) _).setCell (p:=⟨w.heap.size+1,1,none⟩) (Nat.le_succ _) _).setCell (p:=⟨w.heap.size+1,2,none⟩) (Nat.le_succ _) _⟩)
  clear hu7 hR7 hRR;go_wp2_with fail
  exact bodyPost_ret (v:=.tuple #[.agg nil3,.int .i64 a1,.int .i64 120]) (resNm HRR.out rfl _ rfl) rfl HEND.out
 | ok c=>
  obtain ⟨rfl,hc7,hu7⟩:=h7;have hR7:=HR6.out.upd hu7 (by omega);obtain ⟨q0,q1,q2,y0,y1,y2⟩:=Blk.c3 (show Blk w7 (w.heap.size+1) 65 #[.slice none 0 0,.slice none 0 0,.slice none 0 0] from hR7);have HB7:=Hi (HB6.out.trans (hu7.below HB6.out.size fun b hb=>by omega));obtain ⟨⟨vs,vp,vo,ve,kb2,ob2,hv⟩,hbd7,_⟩:=hc7;have HBD:=Hi (show c.se.length≤1099511627776∧c.pu.length≤1099511627776∧c.ou.length≤1099511627776 from ⟨by have:=hbd7.1;omega,by have:=hbd7.2.1;omega,by have:=hbd7.2.2.1;omega⟩);clear hbd7;have c0:w7.cell? ⟨g,0,none⟩=some vs:=hv.blk.cell 0;have c1:w7.cell? ⟨g,1,none⟩=some vp:=hv.blk.cell 1;have c2:w7.cell? ⟨g,2,none⟩=some vo:=hv.blk.cell 2;obtain ⟨As,cs,rfl⟩:=own_sl hv.os;obtain ⟨Ap,cp,rfl⟩:=own_sl hv.op;obtain ⟨Ao,co,rfl⟩:=own_sl hv.oo;have hlt:=hv.blk.lt;have hRR:=Blk.put3 (show Blk w7 (w.heap.size+1) 65 #[.slice none 0 0,.slice none 0 0,.slice none 0 0] from hR7) (.slice As c.se.length cs) (.slice Ap c.pu.length cp) (.slice Ao c.ou.length co);have HRR:=Hi hRR;have hun:Upd (fun b=>b=w.heap.size+1) w7 (((w7.setCell ⟨w.heap.size+1,0,none⟩ (.slice As c.se.length cs)).setCell ⟨w.heap.size+1,1,none⟩ (.slice Ap c.pu.length cp)).setCell ⟨w.heap.size+1,2,none⟩ (.slice Ao c.ou.length co)):=(((Upd.refl (fun b=>b=w.heap.size+1) w7).setCell (p:=⟨w.heap.size+1,0,none⟩) (fun _=>rfl) _).setCell (p:=⟨w.heap.size+1,1,none⟩) (fun _=>rfl) _).setCell (p:=⟨w.heap.size+1,2,none⟩) (fun _=>rfl) _;have hno:∀ b,w.heap.size+2≤b→¬ b=w.heap.size+1:=fun b hb=>by omega
  have HEND:=Hi (show ChkP w (.ok c) (.returned (.tuple #[.agg #[.slice As c.se.length cs,.slice Ap c.pu.length cp,.slice Ao c.ou.length co],.int .i64 0,.int .i64 0])) (((w7.setCell ⟨w.heap.size+1,0,none⟩ (.slice As c.se.length cs)).setCell ⟨w.heap.size+1,1,none⟩ (.slice Ap c.pu.length cp)).setCell ⟨w.heap.size+1,2,none⟩ (.slice Ao c.ou.length co)) from
   ⟨_,_,_,rfl,⟨own_lo (own_updV hv.os hun fun b hb=>hno b (own_atV hv.os b hb).1) (by omega),own_lo (own_updV hv.op hun fun b hb=>hno b (own_atV hv.op b hb).1) (by omega),own_lo (own_updV hv.oo hun fun b hb=>hno b (own_atV hv.oo b hb).1) (by omega),HBD.out⟩,HB7.out.trans (hun.below HB7.out.size fun b hb=>by omega)⟩)
  clear hu7 hR7 hRR hv hun hno;go_wp2_with fail
  exact bodyPost_ret (v:=.tuple #[.agg #[.slice As c.se.length cs,.slice Ap c.pu.length cp,.slice Ao c.ou.length co],.int .i64 0,.int .i64 0]) (resNm HRR.out rfl _ rfl) rfl HEND.out
end Go.Proofs.YtdhoemlomojfaaaGreatDoor.Nm
