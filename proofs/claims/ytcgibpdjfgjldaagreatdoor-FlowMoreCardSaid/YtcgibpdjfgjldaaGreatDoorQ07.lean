/- DERIVED. NmCk, NmEa, HeldTail, Squash. By an AI agent. -/
import Derived.Test.YtcgibpdjfgjldaaGreatDoorQ01
import Derived.Test.YtcgibpdjfgjldaaGreatDoorQ06
import Derived.Laws.Slices
import Derived.Deep.RegionHeld
import Derived.ProofKit
import Derived.Below
set_option maxRecDepth 100000
set_option maxHeartbeats 4000000
set_option linter.unusedVariables false
set_option linter.unusedSimpArgs false
namespace Go.Proofs.YtcgibpdjfgjldaaGreatDoor.Nm
open Go Go.ChangeShapes Go.WideShapes Go.ChangeAt Go.RowKit Lx Args Pa Sh
def outF(ou:List (Bs×Bool))(s:Bs):Bool:=(ou.map (·.1)).contains s
structure CK(N:Nat→Prop)(lo:Nat)(w:World)(g:Nat)(c:St)(m:Nat):Prop where
 ex:∃ vs vp vo ve kb ob,CV N lo w g vs vp vo ve kb ob c.se c.pu c.ou c.en c.kn (outF c.ou) m
 bd:c.se.length≤m∧c.pu.length≤m∧c.ou.length≤m∧c.en.length≤m
 enl:∀ s∈c.en,s.length≤maxLen
section
variable {N N' X : Nat → Prop} {lo : Nat} {w w' : World} {g : Nat} {c : St} {m m' : Nat}
theorem CK.lt(h:CK N lo w g c m):g < w.heap.size:=by obtain ⟨_,_,_,_,_,_,h⟩:=h.ex;exact h.blk.lt
theorem CK.in_(h:CK N lo w g c m):N g∧lo≤g:=by obtain ⟨_,_,_,_,_,_,h⟩:=h.ex;exact ⟨h.inN _ (by simp) g rfl,h.lo_.1⟩
theorem CK.low(h:CK N lo w g c m):lo≤w.heap.size:=by obtain ⟨_,_,_,_,_,_,h⟩:=h.ex;exact h.lo_.2.2.2
theorem CK.far(h:CK N lo w g c m)(hu:Upd X w w')(hX:∀ b,N b→¬ X b):CK N lo w' g c m:=by
 obtain ⟨⟨a,b,d,e,f,i,h1⟩,h2,h3⟩:=h;exact ⟨⟨a,b,d,e,f,i,h1.far hu hX⟩,h2,h3⟩
theorem CK.below(h:CK N lo w g c m)(hb:Below w.heap.size w w'):CK N lo w' g c m:=h.far (Upd.of_below hb fun _=>False) fun _ _ h=>h
theorem CK.mono(h:CK N lo w g c m)(hN:∀ b,N b→b < w.heap.size→lo≤b→N' b):CK N' lo w g c m:=by
 obtain ⟨⟨a,b,d,e,f,i,h1⟩,h2,h3⟩:=h;exact ⟨⟨a,b,d,e,f,i,h1.mono hN⟩,h2,h3⟩
theorem CK.more(h:CK N lo w g c m)(hm:m≤m'):CK N lo w g c m':=by
 obtain ⟨⟨a,b,d,e,f,i,h1⟩,h2,h3⟩:=h;exact ⟨⟨a,b,d,e,f,i,h1.more hm⟩,by omega,h3⟩
theorem CK.knp(h:CK N lo w g c m):KnP w g c.kn:=by
 obtain ⟨_,_,_,_,kb,_,h⟩:=h.ex;exact ⟨kb,m,h.blk.cell 3,h.mp⟩
end
theorem upd_then{N X:Nat→Prop}{w w1 w2:World}(h:Upd N w w1)(h2:Upd X w1 w2)(hX:∀ b,X b→b < w.heap.size→N b):Upd N w w2:=
 ((h.mono (Y:=fun b=>N b∨w.heap.size≤b) fun _ h=>.inl h).trans (h2.mono fun b hb=>if hs:b < w.heap.size then .inl (hX b hb hs) else .inr (by omega))).fresh fun b hb hs=>hb.resolve_right (by omega)
abbrev New(N:Nat→Prop)(w:World):Nat→Prop:=fun b=>N b∨w.heap.size≤b
def StepP(N:Nat→Prop)(lo:Nat)(w:World)(g:Nat)(c:St)(m:Nat)(e:Ending)(w':World):Prop:=e = .returned (.tuple #[])∧CK (New N w) lo w' g c m∧Upd N w w'
def StatP(N:Nat→Prop)(lo:Nat)(w:World)(g:Nat)(r:Rs)(m:Nat)(e:Ending)(w':World):Prop:=
 match r with | .ok c=>StepP N lo w g c m e w' | .bad a=>e=panW a∧Upd N w w'
theorem infoS:(Tryz.prog.info? 9).map (fun i=>(i.zero,i.size,i.bytes))=some (some (.string ⟨#[]⟩),1,16):=by kernel_rfl
theorem infoL:(Tryz.prog.info? 36).map (fun i=>(i.zero,i.size,i.bytes))=some (some (.agg #[.string ⟨#[]⟩,.bool false,.bool false]),3,24):=by kernel_rfl
theorem step_any{P:Program}{w:World}{ops:Array Oper}{o:Oper}{a:Act}{K:Act→World→Prop}{Q:Exit→Act→World→Prop}{E:Prop}(hgd:o.guard=none)(s x:Operand)(t:TypeId)
  (ho:o.op = .call { callee:=.builtin .append,args:=#[s,x],argTypes:=#[t,t] })
  (base:Nat) (e:TypeId) (i:TypeInfo) (z:Value) (size bytes:Nat) (ht:P.underlying t=some (.slice e)) (hi:P.info? e=some i) (hz:i.zero=some z)
  (hsize:i.size=size) (hby:i.bytes=bytes) (hzs:z.cells.size=size) (hsz:0 < size) (v:Value) (n:Nat) (xs:List Value) (hs:a.eval s=v) (hown:w.ownsRow base e size v n xs)
  (A:Option Addr) (m d:Nat) (news:List Value) (hx:a.eval x = .slice A m d) (hl:news.length=m * size) (hL:Lies w A news) (h1:∀ u∈news,u.oneCell'=true) (h63:n+m≤maxLen) (hbytes:(n+m) * bytes≤140737488355328) (hbase:base≤w.heap.size)
  (h:∀ v' w',w'.ownsRow base e size v' (n+m) (xs ++ news)→w.grownBy w' v.ownBlock→(v'.ownBlock=v.ownBlock∨v'.ownBlock=some w.heap.size)→K (a.put o.dst v') w') :
  if Region.wanted o (yielded ops a.tmps)=true then Oper.wp P o a w K Q else E:=by
 have hw:Region.wanted o (yielded ops a.tmps)=true:=by simp [Region.wanted,hgd]
 rw [if_pos hw];obtain ⟨v',w',hrun,h2,h3,h4⟩:=run_app_any (P:=P) base t o.type e i z size bytes ht hi hz hsize hby hzs hsz v n xs hown A m d news hl hL h1 h63 hbytes hbase;unfold Oper.wp execOp;simp only [ho,resolve,invoke,builtin,Sem.run_bind,Sem.run_pure,Result.andThen_ok,List.map_toArray,List.map_cons,List.map_nil,hs,hx,hrun];exact h v' w' h2 h3 h4
theorem big_lt{m:Nat}(h:m+1≤1099511627776):m < maxLen:=by unfold maxLen;omega
theorem name_(N:Nat→Prop)(lo:Nat)(w:World)(g:Nat)(c:St)(m:Nat)(hc:CK N lo w g c m)(hm:m+1≤1099511627776)(s:Bs)(hs:s.length≤maxLen)(q:Nat)(hq:q≤3) :
  Calls Tryz.prog 164 #[.pointer (some ⟨g,0,none⟩),.string ⟨s.toArray⟩,.int .i64 (q:Int)] w (StepP N lo w g { c with kn:=c.kn.put s (q,0),en:=c.en ++ [s] } (m+1)):=by
 obtain ⟨i0,hi,hz⟩:=Option.map_eq_some_iff.1 infoS;have hz0:=congrArg (·.1) hz;have hz1:=congrArg (·.2.1) hz;have hz2:=congrArg (·.2.2) hz;have HI:=Hi hi;have HZ0:=Hi hz0;have HZ1:=Hi hz1;have HZ2:=Hi hz2;clear hi hz hz0 hz1 hz2;obtain ⟨⟨vs,vp,vo,ve,kb,ob,hv⟩,hbd,henl⟩:=hc;have HENL:=Hi henl;obtain ⟨w1,hrun,hm1,ht⟩:=hv.mp.put hs (big_lt hm) (q,0) hq (Nat.zero_le _);have hU1:Upd (fun b=>b=kb) w w1:=turned_upd ht rfl;have hv1:=hv.kn' hU1 hm1 (Nat.le_succ m);have hN1:Upd N w w1:=hU1.mono fun b hb=>hb ▸ hv.inN _ (by simp) kb rfl
 have e3:w.cell? ⟨g,3,none⟩=some (.map (some kb)):=hv.blk.cell 3;have e5:w1.cell? ⟨g,5,none⟩=some ve:=hv1.blk.cell 5;have hg:g < w.heap.size:=hv.blk.lt;have hg1:g < w1.heap.size:=hv1.blk.lt;have hneg:=hv1.ne.1.2.2.2.2.2;have hrun':(Instr.mapUpdate 105 (.map (some kb)) (.string ⟨s.toArray⟩) (.agg #[.int .i64 (q:Int),.int .i64 0])).run Tryz.prog w = .ok () w1:=hrun;obtain ⟨wn,hwn⟩:∃ wn,w1.alloc (.cells #[.string ⟨s.toArray⟩] 9)=wn:=⟨_,rfl⟩;have hbn:Below w1.heap.size w1 wn:=by rw [←hwn];exact (Below.refl _ _).alloc (Nat.le_refl _) _
 have hLn:Lies wn (some ⟨w1.heap.size,0,none⟩) [strV s]:=by rw [←hwn];exact lies_full _ _ [strV s]
 have hoe:wn.ownsRow lo 9 1 ve c.en.length (c.en.map strV):=own_updV hv1.oe (Upd.of_below hbn fun _=>False) fun _ _ h=>h
 have hen:c.en.length+1≤1099511627776:=by omega
 have hlow:lo≤wn.heap.size:=Nat.le_trans hv1.lo_.2.2.2 hbn.size;have HV:=Hi hv1;have HN1:=Hi hN1;have HW:=Hi hwn;have HBN:=Hi hbn;have HLN:=Hi hLn;have HOE:=Hi hoe;have HBD:=Hi hbd;have HNE:=Hi hneg;have HS1:=Hi hU1.size;have HLOW:=Hi hlow;clear henl hv hv1 hm1 ht hU1 hN1 hrun hwn hbn hLn hoe hbd hneg hlow;go_enter Tryz.func164,Tryz.ntmps164;go_wp2_with (at_builtin;rw [HW.out];refine wpList_where rfl _ _ 24 rfl lo 9 i0 (.string ⟨#[]⟩) 1 16 Tryz.underlying24 HI.out HZ0.out HZ1.out HZ2.out rfl (by decide) _ c.en.length _ rfl HOE.out ⟨w1.heap.size,0,none⟩ 1 1 [strV s] rfl rfl HLN.out (by simp [strV,Value.oneCell']) (by unfold maxLen;omega) (by omega) HLOW.out (by decide) ?_;intro g8 c8 w8 hE;have HE8:=Hi hE;have hu8:=(Upd.of_below HBN.out (fun b=>ve.ownBlock=some b)).grown hE.grown (fun k hk _=>hk);have hb8:=HV.out.blk.upd hu8 HNE.out;clear hE e3 e5;obtain ⟨⟨e0,e1,e2,e3,e4,e5⟩,z0,z1,z2,z3,z4,z5⟩:=Blk.c6 hb8;have hg8:=hb8.lt;have HU8:=Hi hu8;clear hb8 hu8)
 have hown:w8.ownsRow lo 9 1 (.slice (some ⟨g8,0,none⟩) (c.en.length+1) c8) (c.en ++ [s]).length ((c.en ++ [s]).map strV):=by
  rw [List.length_append,List.map_append];exact HE8.out.own
 have hat:(Value.slice (some ⟨g8,0,none⟩) (c.en.length+1) c8).ownBlock=ve.ownBlock∨∃ n,w1.heap.size≤n∧(Value.slice (some ⟨g8,0,none⟩) (c.en.length+1) c8).ownBlock=some n:=by
  rcases HE8.out.at_ with h | h
  ·exact .inl h
  ·exact .inr ⟨g8,by rw [h];exact HBN.out.size,rfl⟩
 have hfin:=HV.out.ve' (en':=c.en ++ [s]) HU8.out hown hat;have HEND:=Hi (show StepP N lo w g { c with kn:=c.kn.put s (q,0),en:=c.en ++ [s] } (m+1) (.returned (.tuple #[])) (w8.setCell ⟨g,5,none⟩ (.slice (some ⟨g8,0,none⟩) (c.en.length+1) c8)) from by
  have hb:=HBD.out;refine ⟨rfl,⟨⟨vs,vp,vo,_,kb,ob,hfin.mono fun b hb _ _=>hb.imp id fun h=>Nat.le_trans HS1.out h⟩,⟨Nat.le_succ_of_le hb.1,Nat.le_succ_of_le hb.2.1,Nat.le_succ_of_le hb.2.2.1,by show (c.en ++ [s]).length≤m+1;simp;omega⟩,fun t ht=>?_⟩,?_⟩
  ·rcases List.mem_append.1 ht with h | h
   ·exact HENL.out t h
   ·rw [List.mem_singleton.1 h];exact hs
  ·exact (HN1.out.trans (HU8.out.mono fun b hb=>HV.out.inN _ (by simp) b hb)).setCell (p:=⟨g,5,none⟩) (fun _=>HV.out.inN _ (by simp) g rfl) _)
 clear hown hat hfin
 first | go_end0 | skip
 all_goals first | exact HEND.out | exact bodyPost_ret (results_none rfl _ _ _) rfl HEND.out
mutual
def lenz:Tz→Prop
 | .mk _ _ s _ ps l=>s.length≤maxLen∧(∀ p∈ps,p.length≤maxLen)∧lenzs l
def lenzs:List Tz→Prop
 | []=>True
 | x :: l=>lenz x∧lenzs l
end
theorem lenzs_at:∀ {l:List Tz},lenzs l→∀ {i:Nat} {x:Tz},l[i]?=some x→lenz x
 | [],_,i,x,h=>by simp at h
 | y :: l,h,0,x,hx=>by
  have:y=x:=by simpa using hx
  subst this;unfold lenzs at h;exact h.1
 | y :: l,h,i+1,x,hx=>by
  unfold lenzs at h;exact lenzs_at h.2 (by simpa using hx)
theorem lenz_parts{k a:Int}{s:Bs}{n:Nat}{ps:List Bs}{l:List Tz}(h:lenz (.mk k a s n ps l)):s.length≤maxLen∧(∀ p∈ps,p.length≤maxLen)∧lenzs l:=by unfold lenz at h;exact h
mutual
def foldT{σ:Type}(f:Tz→σ→Int ⊕ σ):Tz→σ→Int ⊕ σ
 | .mk k a s n ps l,st=>match f (.mk k a s n ps l) st with | .inl a=>.inl a | .inr st=>foldTs f l st
def foldTs{σ:Type}(f:Tz→σ→Int ⊕ σ):List Tz→σ→Int ⊕ σ
 | [],st=>.inr st
 | x :: l,st=>match foldT f x st with | .inl a=>.inl a | .inr st=>foldTs f l st
end
theorem foldT_mk{σ:Type}(f:Tz→σ→Int ⊕ σ)(k a:Int)(s:Bs)(n:Nat)(ps:List Bs)(l:List Tz)(st:σ):foldT f (.mk k a s n ps l) st=match f (.mk k a s n ps l) st with | .inl a=>.inl a | .inr st=>foldTs f l st:=by conv=>lhs;unfold foldT
def VisP{σ:Type}(J:(Nat→Prop)→World→σ→Prop)(N:Nat→Prop)(w:World)(r:Int ⊕ σ)(e:Ending)(w':World):Prop:=
 match r with | .inr st=>e = .returned (.tuple #[])∧J (New N w) w' st∧Upd N w w' | .inl a=>e=panW a∧Upd N w w'
structure Vis{σ:Type}(w0:World)(F:FuncId)(pv qv:Value)(f:Tz→σ→Int ⊕ σ)(J:(Nat→Prop)→World→σ→Prop)(cost:σ→Nat)(lim:Nat):Prop where
 step:∀ z st st',f z st = .inr st'→cost st'≤cost st+1
 enter:∀ (a:Value) (w:World),(callFunc F #[a,pv,qv]).run Tryz.prog w = .ok (.enter F #[a,pv,qv]) w
 mono:∀ N N' w st,J N w st→(∀ b,N b→b < w.heap.size→N' b)→J N' w st
 below:∀ N w w' st,J N w st→Below w.heap.size w w'→J N w' st
 call:∀ N w st z k a s n A la cA B lb cB,Below w0.heap.size w0 w→TIz w0 z (nzC k a s n A la cA B lb cB)→lenz z→cost st+1≤lim→J N w st→Calls Tryz.prog F #[nzA k a s n A la cA B lb cB,pv,qv] w (VisP J N w (f z st))
mutual
theorem fold_cost{σ:Type}{f:Tz→σ→Int ⊕ σ}{cost:σ→Nat}(hf:∀ z st st',f z st = .inr st'→cost st'≤cost st+1):∀ (z:Tz) (st st':σ),foldT f z st = .inr st'→cost st'≤cost st+cntz z
 | .mk k a s n ps l,st,st',h=>by
  rw [foldT_mk] at h;unfold cntz;cases h1:f (.mk k a s n ps l) st with
  | inl a=>rw [h1] at h;cases h
  | inr s1=>
   rw [h1] at h;have h2:=hf _ _ _ h1;have h3:=folds_cost hf l s1 st' h;omega
theorem folds_cost{σ:Type}{f:Tz→σ→Int ⊕ σ}{cost:σ→Nat}(hf:∀ z st st',f z st = .inr st'→cost st'≤cost st+1):∀ (l:List Tz) (st st':σ),foldTs f l st = .inr st'→cost st'≤cost st+cnts l
 | [],st,st',h=>by
  unfold foldTs at h;cases h;exact Nat.le_add_right _ _
 | x :: l,st,st',h=>by
  unfold foldTs at h;unfold cnts;cases h1:foldT f x st with
  | inl a=>rw [h1] at h;cases h
  | inr s1=>
   rw [h1] at h;have h2:=fold_cost hf x st s1 h1;have h3:=folds_cost hf l s1 st' h;omega
end
theorem foldTs_cons{σ:Type}(f:Tz→σ→Int ⊕ σ)(x:Tz)(l:List Tz)(st:σ):foldTs f (x :: l) st=match foldT f x st with | .inl a=>.inl a | .inr st=>foldTs f l st:=by conv=>lhs;unfold foldTs
theorem drop_at{α:Type}{l:List α}{i:Nat}{x:α}(h:l[i]?=some x):l.drop i=x :: l.drop (i+1):=by
 have hlt:i < l.length:=(List.getElem?_eq_some_iff.1 h).1;rw [List.drop_eq_getElem_cons hlt]
 congr 1
 rw [List.getElem?_eq_getElem hlt] at h;exact Option.some.inj h
theorem partz_b{q:Prop}{w0 w:World}(hb:Below w0.heap.size w0 w){l:List Tz}{css:List (List Value)}{A:Option Addr}(hL:Lies w0 A css.flatten)(hT:TsIc q w0 l css){i:Nat}{y:Tz}(h:l[i]?=some y) :
  ∃ b o k a s n A' la cA B lb cB,A=some ⟨b,o,none⟩∧TIc q w0 y (nzC k a s n A' la cA B lb cB)∧b < w0.heap.size∧w.cell? ⟨b,o+i * 6,none⟩=some (.int .i64 k)∧w.cell? ⟨b,o+i * 6+1,none⟩=some (.string ⟨s.toArray⟩) ∧
   w.cell? ⟨b,o+i * 6+2,none⟩=some (.int .u32 (n:Int))∧w.cell? ⟨b,o+i * 6+3,none⟩=some (.int .i64 a)∧w.cell? ⟨b,o+i * 6+4,none⟩=some (.slice A' la cA)∧w.cell? ⟨b,o+i * 6+5,none⟩=some (.slice B lb cB):=by
 obtain ⟨b,o,k,a,s,n,A',la,cA,B,lb,cB,h1,h2,h3,e0,e1,e2,e3,e4,e5⟩:=partz_at hL hT h;exact ⟨b,o,k,a,s,n,A',la,cA,B,lb,cB,h1,h2,h3,(hb.cell h3).trans e0,(hb.cell h3).trans e1,(hb.cell h3).trans e2,(hb.cell h3).trans e3,(hb.cell h3).trans e4,(hb.cell h3).trans e5⟩
theorem each{σ:Type}{w0:World}{F:FuncId}{pv qv:Value}{f:Tz→σ→Int ⊕ σ}{J:(Nat→Prop)→World→σ→Prop}{cost:σ→Nat}{lim:Nat}(V:Vis w0 F pv qv f J cost lim):∀ (m:Nat) (z:Tz),SizeOf.sizeOf z < m→∀ (N:Nat→Prop) (w:World) (st:σ) (k a:Int) (s:Bs) (n:Nat) (A:Option Addr) (la cA:Nat) (B:Option Addr) (lb cB:Nat),
  Below w0.heap.size w0 w→TIz w0 z (nzC k a s n A la cA B lb cB)→lenz z→(∀ b,N b→w0.heap.size≤b)→cost st+cntz z≤lim→J N w st →
  Calls Tryz.prog 190 #[nzA k a s n A la cA B lb cB,.func (.func F) #[] #[pv,qv]] w (VisP J N w (foldT f z st))
 | 0,z,h=>absurd h (Nat.not_lt_zero _)
 | m+1,.mk k1 a1 s1 n1 ps l,hm=>fun N w st k a s n A la cA B lb cB hb hT hlz hN hcst hJ=>by
  have hTT:=hT;obtain ⟨rfl,rfl,rfl,rfl,rfl,rfl,hl,hp,hB,css,hL,hS⟩:=tIz_parts hT;have hlm:l.length≤9223372036854775807:=hl;obtain ⟨wn,hwn,hbn,hXn,hsn⟩:=a_box w (nB k a s n A l.length cA B ps.length cB);have hJ1:J (fun b=>N b∧b < w.heap.size) wn st:=V.below _ _ _ _ (V.mono _ (fun b=>N b∧b < w.heap.size) _ _ hJ fun b h1 h2=>⟨h1,h2⟩) hbn;have hb1:=hb.trans (hbn.mono hb.size);have hC:=V.call _ wn st _ k a s n A l.length cA B ps.length cB hb1 hTT hlz (by unfold cntz at hcst;omega) hJ1;have hls:=(lenz_parts hlz).2.2;obtain ⟨⟨e0,e1,e2,e3,e4,e5⟩,z0,z1,z2,z3,z4,z5⟩:=Blk.c6 hXn;have hgl:=hXn.lt;have HL:=Hi hL;have HS:=Hi hS;have HM:=Hi hm;have HLS:=Hi hls;have HNN:=Hi hN;have HW0:=Hi hb1;have IH:=Hi (each V m);have HC:=Hi hC;have HWN:=Hi hwn;have HBN:=Hi hbn;have HXN:=Hi hXn;have HSN:=Hi hsn;have HV:=Hi V;have HCS:=Hi (fun st1 (h:f (.mk k a s n ps l) st = .inr st1)=>show cost st1+cnts l≤lim by have:=V.step _ _ _ h;unfold cntz at hcst;omega);have hen:=V.enter;have hfold:foldT f (.mk k a s n ps l) st=match f (.mk k a s n ps l) st with | .inl a=>.inl a | .inr st=>foldTs f l st:=by conv=>lhs;unfold foldT
  rw [hfold];clear hfold hT hTT hB hL hS hm hp hlz hls hN hcst hJ hJ1 hb hb1 hC hwn hbn hXn V hsn hl;generalize f (.mk k a s n ps l) st=r1 at HC HCS ⊢;go_enter Tryz.func190,Tryz.ntmps190;go_wp2_with fail
  rw [HWN.out];refine (show Calls Tryz.prog F #[nzA k a s n A l.length cA B ps.length cB,pv,qv] wn _ from HC.out).mono ?_;intro e w1 h1;cases r1 with
  | inl a1=>
   obtain ⟨rfl,hu1⟩:=h1;have HEND:=Hi (show Upd N w w1 from (Upd.of_below HBN.out N).trans (hu1.fresh fun b hb _=>hb.1));clear hu1;go_wp2_with fail
   exact ⟨rfl,rfl,HEND.out⟩
  | inr st1=>
   obtain ⟨rfl,hj1,hu1⟩:=h1;have HC1:=Hi (HCS.out st1 rfl);have hX1:=HXN.out.upd hu1 (fun h=>Nat.lt_irrefl _ h.2);have HX1:=Hi hX1;have HU1:=Hi (show Upd N w w1 from (Upd.of_below HBN.out N).trans (hu1.mono fun b hb=>hb.1));have HJ1:=Hi (HV.out.mono _ (fun b=>(N b∧b < w.heap.size)∨wn.heap.size≤b) _ _ hj1 fun b h1 _=>h1);have HB1:=Hi (HW0.out.trans ((hu1.below (B:=w0.heap.size) HW0.out.size fun b hb=>HNN.out b hb.1)));have hs1:=hu1.size;clear hu1 hj1 e0 e1 e2 e3 e4 e5 z0 z1 z2 z3 z4 z5;obtain ⟨⟨e0,e1,e2,e3,e4,e5⟩,z0,z1,z2,z3,z4,z5⟩:=Blk.c6 hX1;clear hX1;go_wp2_with fail
   go_loopw [12] (fun vi wr=>∃ (i:Nat) (sti:σ),i≤l.length∧vi = .int .i64 (i:Int)∧Hid (J (fun b=>(N b∧b < w.heap.size)∨wn.heap.size≤b) wr sti)∧Hid (Upd N w wr)∧Hid (Below w0.heap.size w0 wr)∧Hid (Blk wr w.heap.size 26 (nB k a s n A l.length cA B ps.length cB))∧Hid (foldTs f (l.drop i) sti=foldTs f l st1)∧Hid (wn.heap.size≤wr.heap.size)∧Hid (cost sti+cnts (l.drop i)≤lim)) (fun vi _=>l.length - (intOf vi).toNat)
   case atStart=>exact ⟨0,st1,by omega,rfl,HJ1,HU1,HB1,HX1,Hi rfl,Hi hs1,Hi HC1.out⟩
   case round=>
    obtain ⟨i,sti,hi,rfl,HJ,HU,HB,HX,HQ,HSZ,HCI⟩:=hrel;by_cases hlt:i < l.length
    ·have hil:(i:Int) < (l.length:Int):=by omega
     obtain ⟨y,hy⟩:∃ y,l[i]?=some y:=⟨_,List.getElem?_eq_getElem hlt⟩;obtain ⟨b,o,k',a',s',n',A',la',cA',B',lb',cB',rfl,hTy,hb,g0,g1,g2,g3,g4,g5⟩:=partz_b HB.out HL.out HS.out hy;obtain ⟨wb,hwb,hbb,hXb,hsb⟩:=a_box wr (nB k' a' s' n' A' la' cA' B' lb' cB');have hsy:SizeOf.sizeOf y < m:=by have:=size_memz (k:=k) (a:=a) (n:=n) (s:=s) (ps:=ps) hy;have:=HM.out;omega
     have hJb:=HV.out.below _ _ _ _ (HV.out.mono _ (fun b=>((N b∧b < w.heap.size)∨wn.heap.size≤b)∧b < wr.heap.size) _ _ HJ.out fun b h1 h2=>⟨h1,h2⟩) hbb;have hci:=HCI.out;rw [drop_at hy] at hci;unfold cnts at hci;have hC:=IH.out y hsy _ wb sti k' a' s' n' A' la' cA' B' lb' cB' (HB.out.trans (hbb.mono HB.out.size)) hTy (lenzs_at HLS.out hy) (fun b hb=>by
      rcases hb.1 with h | h
      ·exact HNN.out b h.1
      ·exact Nat.le_trans HW0.out.size h) (by omega) hJb
     have HCY:=Hi (fun st2 (h:foldT f y sti = .inr st2)=>show cost st2+cnts (l.drop (i+1))≤lim by have:=fold_cost HV.out.step y sti st2 h;omega);have hq:=HQ.out;rw [drop_at hy,foldTs_cons] at hq;obtain ⟨⟨e0,e1,e2,e3,e4,e5⟩,z0,z1,z2,z3,z4,z5⟩:=Blk.c6 hXb;have HC:=Hi hC;have HWB:=Hi hwb;have HBB:=Hi hbb;have HQ2:=Hi hq;have hrl:=hXb.lt;have HXb:=Hi (HX.out.below hbb HX.out.lt);clear hC hwb hbb hXb hq hJb hTy hsy hy hci;generalize foldT f y sti=r2 at HC HQ2 HCY;go_wp2_with fail
     rw [HWB.out];refine (show Calls Tryz.prog 190 #[nzA k' a' s' n' A' la' cA' B' lb' cB',.func (.func F) #[] #[pv,qv]] wb _ from HC.out).mono ?_;intro e w4 h4;cases r2 with
     | inl a2=>
      obtain ⟨rfl,hu4⟩:=h4;have HQ3:=Hi HQ2.out.symm;have HEND:=Hi (upd_then (upd_then HU.out (Upd.of_below HBB.out fun _=>False) fun _ h=>h.elim) hu4 fun b hb hs=>by
       rcases hb.1 with h | h
       ·exact h.1
       ·have:=HSN.out;omega)
      clear hu4;go_wp2_with fail
      exact ⟨rfl,by rw [HQ3.out];exact ⟨rfl,HEND.out⟩⟩
     | inr st2=>
      obtain ⟨rfl,hj4,hu4⟩:=h4;have HJ4:=Hi (HV.out.mono _ (fun b=>(N b∧b < w.heap.size)∨wn.heap.size≤b) _ _ hj4 fun b h1 _=>by
       rcases h1 with h | h
       ·exact h.1
       ·exact .inr (by have:=HSZ.out;omega))
      have HU4:=Hi (upd_then (upd_then HU.out (Upd.of_below HBB.out fun _=>False) fun _ h=>h.elim) hu4 fun b hb hs=>by
       rcases hb.1 with h | h
       ·exact h.1
       ·have:=HSN.out;omega)
      have HB4:=Hi ((HB.out.trans (HBB.out.mono HB.out.size)).trans (hu4.below (B:=w0.heap.size) (Nat.le_trans HB.out.size HBB.out.size) fun b hb=>by
       rcases hb.1 with h | h
       ·exact HNN.out b h.1
       ·exact Nat.le_trans HW0.out.size h))
      have HX4:=Hi (HXb.out.upd hu4 fun hb=>by
       rcases hb.1 with h | h
       ·exact Nat.lt_irrefl _ h.2
       ·have:=HSN.out;omega)
      have HSZ4:=Hi (show wn.heap.size≤w4.heap.size by have:=hu4.size;have:=HSZ.out;omega);clear hj4 hu4;go_wp2_with fail
      go_roundw
      case rel=>exact ⟨i+1,st2,by omega,by go_num,HJ4,HU4,HB4,HX4,HQ2,HSZ4,Hi (HCY.out st2 rfl)⟩
      case measure=>simp [intOf];omega
    ·obtain rfl:i=l.length:=by omega
     have hq:=HQ.out;rw [List.drop_length] at hq
     conv at hq=>lhs;unfold foldTs
     have HQ2:=Hi hq.symm;clear hq;have HEND:=Hi (show VisP J N w (.inr sti) (.returned (.tuple #[])) wr from ⟨rfl,HV.out.mono _ _ _ _ HJ.out fun b h1 _=>h1.imp (fun h=>h.1) fun h=>Nat.le_trans (by have:=HSN.out;omega) h,HU.out⟩);go_wp2_with fail
     first | go_end0 | skip
     all_goals first | (rw [HQ2.out];exact HEND.out) | (refine bodyPost_ret (results_none rfl _ _ _) rfl ?_;show VisP J N w (foldTs f l st1) _ _;rw [HQ2.out];exact HEND.out)
end Go.Proofs.YtcgibpdjfgjldaaGreatDoor.Nm
namespace Go.Proofs.YtcgibpdjfgjldaaGreatDoor.HT
open Go
section
variable {P : Program} {ops : Array Oper} {Q : Exit → Act → World → Prop} {md : Region.Mode} {Z S : World → Prop} {st : List Nat}
def none_(st:List Nat)(listed:Array Bool):Prop:=∀ s∈st,listed.getD s true=false
def anyT(P:Program)(md:Region.Mode)(ops:Array Oper)(Q:Exit→Act→World→Prop)(Z S:World→Prop)(st:List Nat):Nat→Array Bool→Act→World→Prop
 | 0,listed,a,w=>Region.ready md ops listed=[]∧Q .normal a w
 | f+1,listed,a,w=>(Region.ready md ops listed=[]→Q .normal a w) ∧
  ∀ i∈Region.ready md ops listed,wpOp P ops Q i (fun a' w'=>(Z w'∧(none_ st (listed.setIfInBounds i true)→S w'))∧anyT P md ops Q Z S st f (listed.setIfInBounds i true) a' w') a w
theorem any_of:∀ (f:Nat) (listed:Array Bool) (a:Act) (w:World),anyT P md ops Q Z S st f listed a w→wpAny P md ops Q f listed a w
 | 0,_,_,_,h=>h
 | f+1,_,_,_,h=>⟨h.1,fun i hi=>wpOp_mono (fun a' w' h'=>any_of f _ a' w' h'.2) (h.2 i hi)⟩
def waitB(md:Region.Mode)(ops:Array Oper)(st:List Nat)(i:Nat):Bool:=st.all fun s=>((ops[s]?).map (·.after.any fun e=>Region.binds md e && e.on==i)).getD false
theorem wait_no{i s:Nat}(hw:waitB md ops st i=true)(hs:s∈st){listed:Array Bool}(hi:listed.getD i true=false):s ∉ Region.ready md ops listed:=fun hr=>by
 have h1:=List.all_eq_true.1 hw s hs;obtain ⟨_,o,ho,hall⟩:=mem_ready.1 hr;rw [ho] at h1;simp only [Option.map_some,Option.getD_some] at h1;obtain ⟨e,he,hb⟩:=Array.any_eq_true'.1 h1;simp only [Bool.and_eq_true,beq_iff_eq] at hb;have h2:=hall e he hb.1;rw [hb.2] at h2;rcases Nat.lt_or_ge i listed.size with h' | h'
 ·simp [h'] at h2 hi;rw [hi] at h2;cases h2
 ·simp [Array.getElem?_eq_none h'] at h2
theorem none_set{j:Nat}{listed:Array Bool}(h:none_ st listed)(hj:j ∉ st):none_ st (listed.setIfInBounds j true):=fun s hs=>by
 have h1:=h s hs;have:s≠j:=fun e=>hj (e ▸ hs)
 rw [Array.getD_eq_getD_getElem?] at h1 ⊢;rw [Array.getElem?_setIfInBounds_ne (Ne.symm this)];exact h1
theorem first{i:Nat}{oi:Oper}{v:Value}(hi:ops[i]?=some oi)(hsel:∀ (j:Nat) (o:Oper) cs b,ops[j]?=some o→o.op≠.select cs b)
  (hQ:∀ c a w,Q (.panic c) (a.put oi.dst v) w→Q (.panic c) a w) (hw:waitB md ops st i=true) (hist:i ∉ st) :
  ∀ (f:Nat) (listed:Array Bool) (a:Act) (w:World),
   (∀ j oj,ops[j]?=some oj→j≠i→listed.getD j true=false→(∀ e∈oj.after,Region.binds md e=true→e.on≠i)→oi.apart ops oj=true) →
   i∈Region.ready md ops listed→none_ st listed→YieldsIf P ops S oi v a→Z w→S w →
   anyT P md ops Q Z S st f (listed.setIfInBounds i true) (a.put oi.dst v) w→anyT P md ops Q Z S st (f+1) listed a w:=by
 intro f
 induction f with
 | zero=>
  intro listed a w _ hr _ hy hZ hS H;refine ⟨fun h=>(by rw [h] at hr;cases hr),fun j hj=>?_⟩;by_cases hji:j=i
  ·subst hji;exact hy.wpOp hi hS ⟨⟨hZ,fun _=>hS⟩,H⟩
  ·have:=ready_mono hj hji;rw [H.1] at this;cases this
 | succ f ih=>
  intro listed a w hfree hr hn hy hZ hS H;refine ⟨fun h=>(by rw [h] at hr;cases hr),fun j hj=>?_⟩;by_cases hji:j=i
  ·subst hji;exact hy.wpOp hi hS ⟨⟨hZ,fun _=>hS⟩,H⟩
  ·have h1:=H.2 j (ready_mono hj hji);obtain ⟨hjun,oj,hoj,hall⟩:=mem_ready.1 hj;have hiun:=(mem_ready.1 hr).1;have hnot:∀ e∈oj.after,Region.binds md e=true→e.on≠i:=fun e he hb heq=>by
    have h1:=hall e he hb;rw [heq] at h1;rcases Nat.lt_or_ge i listed.size with h' | h'
    ·simp [h'] at hiun h1;rw [hiun] at h1;cases h1
    ·simp [Array.getElem?_eq_none h'] at h1
   have hjst:j ∉ st:=fun h=>wait_no hw h hiun hj
   have h2:=wpOp_putIf hoj (hfree j oj hoj hji hjun hnot) (fun cs b=>hsel i oi cs b hi) (fun cs b=>hsel j oj cs b hoj) hQ hy h1;have hnj:=none_set hn hjst;refine wpOp_mono (fun a' w' h3=>?_) h2;have hS':S w':=h3.2.1.2 (none_set (none_set hn hist) hjst);refine ⟨⟨h3.2.1.1,fun _=>hS'⟩,ih (listed.setIfInBounds j true) a' w' (fun k ok hk hki hun hno=>hfree k ok hk hki ?_ hno) (ready_mono hr (Ne.symm hji)) hnj h3.1 h3.2.1.1 hS' ?_⟩
   ·by_cases hjk:j=k
    ·subst hjk;exact hjun
    ·rw [Array.getD_eq_getD_getElem?,Array.getElem?_setIfInBounds_ne hjk,←Array.getD_eq_getD_getElem?] at hun;exact hun
   ·rw [Array.setIfInBounds_comm _ _ hji];exact h3.2.2
theorem firstP{i:Nat}{oi:Oper}{v:Value}(hi:ops[i]?=some oi)(hsel:∀ (j:Nat) (o:Oper) cs b,ops[j]?=some o→o.op≠.select cs b)
  (hQ:∀ c a w,Q (.panic c) (a.put oi.dst v) w→Q (.panic c) a w) (hist:i ∉ st) :
  ∀ (f:Nat) (listed:Array Bool) (a:Act) (w:World),
   (∀ j oj,ops[j]?=some oj→j≠i→listed.getD j true=false→(∀ e∈oj.after,Region.binds md e=true→e.on≠i)→oi.apart ops oj=true) →
   i∈Region.ready md ops listed→Z w→(none_ st listed→S w)→YieldsIf P ops Z oi v a →
   anyT P md ops Q Z S st f (listed.setIfInBounds i true) (a.put oi.dst v) w→anyT P md ops Q Z S st (f+1) listed a w:=by
 intro f
 induction f with
 | zero=>
  intro listed a w _ hr hZ hS hy H;refine ⟨fun h=>(by rw [h] at hr;cases hr),fun j hj=>?_⟩;by_cases hji:j=i
  ·subst hji;refine hy.wpOp hi hZ ⟨⟨hZ,fun hx=>hS fun s hs=>?_⟩,H⟩;have:=hx s hs;rw [Array.getD_eq_getD_getElem?,Array.getElem?_setIfInBounds_ne (by rintro rfl;exact hist hs),←Array.getD_eq_getD_getElem?] at this;exact this
  ·have:=ready_mono hj hji;rw [H.1] at this;cases this
 | succ f ih=>
  intro listed a w hfree hr hZ hS hy H;refine ⟨fun h=>(by rw [h] at hr;cases hr),fun j hj=>?_⟩;by_cases hji:j=i
  ·subst hji;refine hy.wpOp hi hZ ⟨⟨hZ,fun hx=>hS fun s hs=>?_⟩,H⟩;have:=hx s hs;rw [Array.getD_eq_getD_getElem?,Array.getElem?_setIfInBounds_ne (by rintro rfl;exact hist hs),←Array.getD_eq_getD_getElem?] at this;exact this
  ·have h1:=H.2 j (ready_mono hj hji);obtain ⟨hjun,oj,hoj,hall⟩:=mem_ready.1 hj;have hiun:=(mem_ready.1 hr).1;have hnot:∀ e∈oj.after,Region.binds md e=true→e.on≠i:=fun e he hb heq=>by
    have h1:=hall e he hb;rw [heq] at h1;rcases Nat.lt_or_ge i listed.size with h' | h'
    ·simp [h'] at hiun h1;rw [hiun] at h1;cases h1
    ·simp [Array.getElem?_eq_none h'] at h1
   have h2:=wpOp_putIf hoj (hfree j oj hoj hji hjun hnot) (fun cs b=>hsel i oi cs b hi) (fun cs b=>hsel j oj cs b hoj) hQ hy h1;refine wpOp_mono (fun a' w' h3=>?_) h2;have hS':none_ st (listed.setIfInBounds j true)→S w':=fun hx=>h3.2.1.2 (by rw [Array.setIfInBounds_comm _ _ (Ne.symm hji)];exact none_set hx hist)
   refine ⟨⟨h3.2.1.1,hS'⟩,ih (listed.setIfInBounds j true) a' w' (fun k ok hk hki hun hno=>hfree k ok hk hki ?_ hno) (ready_mono hr (Ne.symm hji)) h3.2.1.1 hS' h3.1 ?_⟩
   ·by_cases hjk:j=k
    ·subst hjk;exact hjun
    ·rw [Array.getD_eq_getD_getElem?,Array.getElem?_setIfInBounds_ne hjk,←Array.getD_eq_getD_getElem?] at hun;exact hun
   ·rw [Array.setIfInBounds_comm _ _ hji];exact h3.2.2
def noneB(st:List Nat)(listed:Array Bool):Bool:=st.all fun s=>!listed.getD s true
theorem none_of{listed:Array Bool}(h:noneB st listed=true):none_ st listed:=fun s hs=>by simpa using List.all_eq_true.1 h s hs
theorem take{i:Nat}{oi:Oper}{v:Value}{f:Nat}{listed:Array Bool}{a:Act}{w:World}(hi:ops[i]?=some oi)
  (hs:Region.noSelect ops=true) (hf:Region.free md ops listed i=true) (hr:(Region.ready md ops listed).contains i=true) (hw:waitB md ops st i=true) (hn:noneB st listed=true) (hist:st.contains i=false)
  (hQ:∀ c a w,Q (.panic c) (a.put oi.dst v) w→Q (.panic c) a w) (hy:YieldsIf P ops S oi v a) (hZ:Z w) (hS:S w)
  (h:anyT P md ops Q Z S st f (listed.setIfInBounds i true) (a.put oi.dst v) w):anyT P md ops Q Z S st (f+1) listed a w:=
 first hi (Region.noSelect_spec hs) hQ hw (by simpa using hist) f listed a w (Region.free_spec hi hf) (by simpa using hr) (none_of hn) hy hZ hS h
theorem takeP{i:Nat}{oi:Oper}{v:Value}{f:Nat}{listed:Array Bool}{a:Act}{w:World}(hi:ops[i]?=some oi)
  (hs:Region.noSelect ops=true) (hf:Region.free md ops listed i=true) (hr:(Region.ready md ops listed).contains i=true) (hist:st.contains i=false)
  (hQ:∀ c a w,Q (.panic c) (a.put oi.dst v) w→Q (.panic c) a w) (hy:YieldsIf P ops Z oi v a) (hZ:Z w) (hS:none_ st listed→S w)
  (h:anyT P md ops Q Z S st f (listed.setIfInBounds i true) (a.put oi.dst v) w):anyT P md ops Q Z S st (f+1) listed a w:=
 firstP hi (Region.noSelect_spec hs) hQ (by simpa using hist) f listed a w (Region.free_spec hi hf) (by simpa using hr) hZ hS hy h
theorem takeS{i:Nat}{oi:Oper}{v:Value}{f:Nat}{listed:Array Bool}{a:Act}{w:World}(hi:ops[i]?=some oi)
  (hs:Region.noSelect ops=true) (hf:Region.free md ops listed i=true) (hr:(Region.ready md ops listed).contains i=true) (hist:st.contains i=false) (hn:noneB st listed=false)
  (hQ:∀ c a w,Q (.panic c) (a.put oi.dst v) w→Q (.panic c) a w) (hy:YieldsIf P ops Z oi v a) (hZ:Z w)
  (h:anyT P md ops Q Z S st f (listed.setIfInBounds i true) (a.put oi.dst v) w):anyT P md ops Q Z S st (f+1) listed a w:=
 takeP hi hs hf hr hist hQ hy hZ (fun hx=>by
  have:noneB st listed=true:=List.all_eq_true.2 fun s hs=>by simpa using hx s hs
  rw [this] at hn;cases hn) h
theorem one{i:Nat}{o:Oper}{f:Nat}{listed:Array Bool}{a:Act}{w:World}(hr:Region.ready md ops listed=[i])(ho:ops[i]?=some o)
  (h:∀ K:Act→World→Prop,Shut (∀ a' w',Z w'→S w'→anyT P md ops Q Z S st f (listed.setIfInBounds i true) a' w'→K a' w')→if Region.wanted o (yielded ops a.tmps)=true then Oper.wp P o a w K Q else K (a.put o.dst undef) w):anyT P md ops Q Z S st (f+1) listed a w:=
 ⟨fun h0=>by rw [hr] at h0;(cases h0),fun j hj=>by
  rw [hr] at hj;obtain rfl:=List.mem_singleton.1 hj;exact wpOp_step ho fun K hK=>h K fun a' w' hZ hS hW=>hK a' w' ⟨⟨hZ,fun _=>hS⟩,hW⟩⟩
theorem oneS{i:Nat}{o:Oper}{f:Nat}{listed:Array Bool}{a:Act}{w:World}(hr:Region.ready md ops listed=[i])(hist:noneB st (listed.setIfInBounds i true)=false)(ho:ops[i]?=some o)
  (h:∀ K:Act→World→Prop,Shut (∀ a' w',Z w'→anyT P md ops Q Z S st f (listed.setIfInBounds i true) a' w'→K a' w')→if Region.wanted o (yielded ops a.tmps)=true then Oper.wp P o a w K Q else K (a.put o.dst undef) w):anyT P md ops Q Z S st (f+1) listed a w:=
 ⟨fun h0=>by rw [hr] at h0;(cases h0),fun j hj=>by
  rw [hr] at hj;obtain rfl:=List.mem_singleton.1 hj;refine wpOp_step ho fun K hK=>h K fun a' w' hZ hW=>hK a' w' ⟨⟨hZ,fun hx=>?_⟩,hW⟩
  have:noneB st (listed.setIfInBounds j true)=true:=List.all_eq_true.2 fun s hs=>by simpa using hx s hs
  rw [this] at hist;cases hist⟩
theorem done{f:Nat}{listed:Array Bool}{a:Act}{w:World}(hr:Region.ready md ops listed=[])(h:Q .normal a w):anyT P md ops Q Z S st f listed a w:=by
 cases f with
 | zero=>exact ⟨hr,h⟩
 | succ f=>exact ⟨fun _=>h,fun i hi=>by rw [hr] at hi;cases hi⟩
theorem wp_region{id:Nat}{a:Act}{w:World}(hm:P.follows .mixedOrders=true)(h:anyT P .any ops Q Z S st ops.size (Array.replicate ops.size false) a w.drew):(Code.region id ops true).wp P Q a w:=
 wp_region_any hm (any_of _ _ _ _ h)
end
section
variable {P : Program} {ops : Array Oper} {Q : Exit → Act → World → Prop} {md : Region.Mode} {Z S : World → Prop} {st : List Nat}
theorem tr {p : Prop} : p → True := fun _ => trivial
theorem pS : (∀ (a : Act) (d : Nat) (v : Value), a.put (some d) v = { a with tmps := a.tmps.setIfInBounds d v }) ∧ (∀ (l : List Value) (i : Nat) (v : Value), l.toArray.setIfInBounds i v = (l.set i v).toArray) ∧ (∀ (l : List Oper) (i : Nat) (h : i < l.toArray.size), l.toArray[i] = l[i]'(by simpa using h)) ∧
    (∀ (a b : Value) (l : List Value), (a :: l).set 0 b = b :: l) ∧ (∀ (a b : Value) (l : List Value) (n : Nat), (a :: l).set (n + 1) b = a :: l.set n b) ∧
    (∀ (a : Oper) (l : List Oper) (h : 0 < (a :: l).length), (a :: l)[0] = a) ∧ (∀ (a : Oper) (l : List Oper) (n : Nat) (h : n + 1 < (a :: l).length), (a :: l)[n + 1] = l[n]'(Nat.lt_of_succ_lt_succ h)) ∧ (∀ (a : Act) (v : Value), a.put none v = a) :=
  ⟨fun _ _ _ => rfl, fun _ _ _ => by simp, fun _ _ _ => rfl, fun _ _ _ => rfl, fun _ _ _ _ => rfl, fun _ _ _ => rfl, fun _ _ _ _ => rfl, fun _ _ => rfl⟩
theorem tk (i : Nat) {oi : Oper} {v : Value} {f : Nat} {listed : Array Bool} {a a' : Act} {w : World} (hi : ops[i]? = some oi) (hv : ∀ w', Z w' → (execOp a.eval oi).run P w' = .ok (.value v) w') (hZ : Z w) (hS : none_ st listed → S w)
    (h : anyT P md ops Q Z S st f (listed.setIfInBounds i true) a' w) (hs : Region.noSelect ops = true := by kernel_rfl) (hf : Region.free md ops listed i = true := by kernel_rfl) (hr : (Region.ready md ops listed).contains i = true := by kernel_rfl) (hist : st.contains i = false := by kernel_rfl)
    (hQ : ∀ c a w, Q (.panic c) (a.put oi.dst v) w → Q (.panic c) a w := by exact fun _ _ _ h => h) (hw : Region.wanted oi (yielded ops a.tmps) = true := by rfl) (ha : a.put oi.dst v = a' := by simp only [HT.pS] <;> rfl) : anyT P md ops Q Z S st (f + 1) listed a w :=
  takeP hi hs hf hr hist hQ (.inl ⟨hw, hv⟩) hZ hS (ha ▸ h)
theorem tm (i : Nat) {oi : Oper} {v : Value} {f : Nat} {listed : Array Bool} {a a' : Act} {w : World} (hi : ops[i]? = some oi) (hZ : Z w) (hS : none_ st listed → S w)
    (h : anyT P md ops Q Z S st f (listed.setIfInBounds i true) a' w) (hv : ∀ w', Z w' → (execOp a.eval oi).run P w' = .ok (.value v) w' := by (intro v hSw; clear hSw; go_simp; try with_reducible rfl)) (hs : Region.noSelect ops = true := by kernel_rfl) (hf : Region.free md ops listed i = true := by kernel_rfl) (hr : (Region.ready md ops listed).contains i = true := by kernel_rfl) (hist : st.contains i = false := by kernel_rfl)
    (hQ : ∀ c a w, Q (.panic c) (a.put oi.dst v) w → Q (.panic c) a w := by exact fun _ _ _ h => h) (hw : Region.wanted oi (yielded ops a.tmps) = true := by rfl) (ha : a.put oi.dst v = a' := by simp only [HT.pS] <;> rfl) : anyT P md ops Q Z S st (f + 1) listed a w :=
  takeP hi hs hf hr hist hQ (.inl ⟨hw, hv⟩) hZ hS (ha ▸ h)
theorem sk (i : Nat) {oi : Oper} {f : Nat} {listed : Array Bool} {a a' : Act} {w : World} (hi : ops[i]? = some oi) (hZ : Z w) (hS : none_ st listed → S w)
    (h : anyT P md ops Q Z S st f (listed.setIfInBounds i true) a' w) (hs : Region.noSelect ops = true := by kernel_rfl) (hf : Region.free md ops listed i = true := by kernel_rfl) (hr : (Region.ready md ops listed).contains i = true := by kernel_rfl) (hist : st.contains i = false := by kernel_rfl)
    (hQ : ∀ c a w, Q (.panic c) (a.put oi.dst undef) w → Q (.panic c) a w := by exact fun _ _ _ h => h) (hw : Region.wanted oi (yielded ops a.tmps) = false := by rfl) (ha : a.put oi.dst undef = a' := by simp only [HT.pS] <;> rfl) : anyT P md ops Q Z S st (f + 1) listed a w :=
  takeP hi hs hf hr hist hQ (.inr ⟨hw, rfl⟩) hZ hS (ha ▸ h)
theorem ts (i : Nat) {oi : Oper} {v : Value} {f : Nat} {listed : Array Bool} {a a' : Act} {w : World} (hi : ops[i]? = some oi) (hv : ∀ w', S w' → (execOp a.eval oi).run P w' = .ok (.value v) w') (hZ : Z w) (hS : S w)
    (h : anyT P md ops Q Z S st f (listed.setIfInBounds i true) a' w) (hs : Region.noSelect ops = true := by kernel_rfl) (hf : Region.free md ops listed i = true := by kernel_rfl) (hr : (Region.ready md ops listed).contains i = true := by kernel_rfl) (hwt : waitB md ops st i = true := by kernel_rfl) (hn : noneB st listed = true := by kernel_rfl) (hist : st.contains i = false := by kernel_rfl)
    (hQ : ∀ c a w, Q (.panic c) (a.put oi.dst v) w → Q (.panic c) a w := by exact fun _ _ _ h => h) (hw : Region.wanted oi (yielded ops a.tmps) = true := by rfl) (ha : a.put oi.dst v = a' := by simp only [HT.pS] <;> rfl) : anyT P md ops Q Z S st (f + 1) listed a w :=
  take hi hs hf hr hwt hn hist hQ (.inl ⟨hw, hv⟩) hZ hS (ha ▸ h)
theorem tgm (i : Nat) {oi : Oper} {v : Value} {f : Nat} {listed : Array Bool} {a a' : Act} {w : World} (hi : ops[i]? = some oi) (hZ : Z w)
    (h : anyT P md ops Q Z S st f (listed.setIfInBounds i true) a' w) (hv : ∀ w', Z w' → (execOp a.eval oi).run P w' = .ok (.value v) w' := by (intro v hSw; clear hSw; go_simp; try with_reducible rfl)) (hs : Region.noSelect ops = true := by kernel_rfl) (hf : Region.free md ops listed i = true := by kernel_rfl) (hr : (Region.ready md ops listed).contains i = true := by kernel_rfl) (hist : st.contains i = false := by kernel_rfl) (hn : noneB st listed = false := by kernel_rfl)
    (hQ : ∀ c a w, Q (.panic c) (a.put oi.dst v) w → Q (.panic c) a w := by exact fun _ _ _ h => h) (hw : Region.wanted oi (yielded ops a.tmps) = true := by rfl) (ha : a.put oi.dst v = a' := by simp only [HT.pS] <;> rfl) : anyT P md ops Q Z S st (f + 1) listed a w :=
  takeS hi hs hf hr hist hn hQ (.inl ⟨hw, hv⟩) hZ (ha ▸ h)
end
end Go.Proofs.YtcgibpdjfgjldaaGreatDoor.HT
