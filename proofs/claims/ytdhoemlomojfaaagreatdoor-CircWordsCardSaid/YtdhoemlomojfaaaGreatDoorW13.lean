/- DERIVED. NmCk, NmEa, FlMem. By an AI agent. -/
import Derived.Test.YtdhoemlomojfaaaGreatDoorW01
import Derived.Test.YtdhoemlomojfaaaGreatDoorW12
import Derived.Laws.Slices
import Derived.Test.YtdhoemlomojfaaaGreatDoorW10
import Derived.Test.YtdhoemlomojfaaaGreatDoorW09
set_option maxRecDepth 100000
set_option maxHeartbeats 4000000
set_option linter.unusedVariables false
set_option linter.unusedSimpArgs false
namespace Go.Proofs.YtdhoemlomojfaaaGreatDoor.Nm
open Go Go.ChangeShapes Go.WideShapes Go.ChangeAt Go.RowKit Lx Args Pa Sh
def outF(ou:List (Bs×Bool))(s:Bs):Bool:=(ou.map (·.1)).contains s
structure CK(N:Nat→Prop)(lo:Nat)(w:World)(g:Nat)(c:St)(m:Nat):Prop where
 ex:∃ vs vp vo ve kb ob,CV N lo w g vs vp vo ve kb ob c.se c.pu c.ou c.en c.kn (outF c.ou) m
 bd:c.se.length≤m∧c.pu.length≤m∧c.ou.length≤m∧c.en.length≤m
 enl:∀ s∈c.en,s.length≤maxLen
section
variable {N N' X : Nat → Prop} {lo : Nat} {w w' : World} {g : Nat} {c : St} {m m' : Nat}
theorem CK.lt(h:CK N lo w g c m):g < w.heap.size:=by obtain ⟨_,_,_,_,_,_,h⟩:=h.ex;exact h.blk.lt
theorem CK.in_(h:CK N lo w g c m):N g∧lo≤g:=by obtain ⟨_,_,_,_,_,_,h⟩:=h.ex;exact ⟨h.inN _ (by simp) g rfl,h.lo_.1⟩
theorem CK.low(h:CK N lo w g c m):lo≤w.heap.size:=by obtain ⟨_,_,_,_,_,_,h⟩:=h.ex;exact h.lo_.2.2.2
theorem CK.far(h:CK N lo w g c m)(hu:Upd X w w')(hX:∀ b,N b→¬ X b):CK N lo w' g c m:=by
 obtain ⟨⟨a,b,d,e,f,i,h1⟩,h2,h3⟩:=h;exact ⟨⟨a,b,d,e,f,i,h1.far hu hX⟩,h2,h3⟩
theorem CK.below(h:CK N lo w g c m)(hb:Below w.heap.size w w'):CK N lo w' g c m:=h.far (Upd.of_below hb fun _=>False) fun _ _ h=>h
theorem CK.mono(h:CK N lo w g c m)(hN:∀ b,N b→b < w.heap.size→lo≤b→N' b):CK N' lo w g c m:=by
 obtain ⟨⟨a,b,d,e,f,i,h1⟩,h2,h3⟩:=h;exact ⟨⟨a,b,d,e,f,i,h1.mono hN⟩,h2,h3⟩
theorem CK.more(h:CK N lo w g c m)(hm:m≤m'):CK N lo w g c m':=by
 obtain ⟨⟨a,b,d,e,f,i,h1⟩,h2,h3⟩:=h;exact ⟨⟨a,b,d,e,f,i,h1.more hm⟩,by omega,h3⟩
theorem CK.knp(h:CK N lo w g c m):KnP w g c.kn:=by
 obtain ⟨_,_,_,_,kb,_,h⟩:=h.ex;exact ⟨kb,m,h.blk.cell 3,h.mp⟩
end
theorem upd_then{N X:Nat→Prop}{w w1 w2:World}(h:Upd N w w1)(h2:Upd X w1 w2)(hX:∀ b,X b→b < w.heap.size→N b):Upd N w w2:=
 ((h.mono (Y:=fun b=>N b∨w.heap.size≤b) fun _ h=>.inl h).trans (h2.mono fun b hb=>if hs:b < w.heap.size then .inl (hX b hb hs) else .inr (by omega))).fresh fun b hb hs=>hb.resolve_right (by omega)
abbrev New(N:Nat→Prop)(w:World):Nat→Prop:=fun b=>N b∨w.heap.size≤b
def StepP(N:Nat→Prop)(lo:Nat)(w:World)(g:Nat)(c:St)(m:Nat)(e:Ending)(w':World):Prop:=e = .returned (.tuple #[])∧CK (New N w) lo w' g c m∧Upd N w w'
def StatP(N:Nat→Prop)(lo:Nat)(w:World)(g:Nat)(r:Rs)(m:Nat)(e:Ending)(w':World):Prop:=
 match r with | .ok c=>StepP N lo w g c m e w' | .bad a=>e=panW a∧Upd N w w'
theorem infoS:(Tryz.prog.info? 9).map (fun i=>(i.zero,i.size,i.bytes))=some (some (.string ⟨#[]⟩),1,16):=by kernel_rfl
theorem infoL:(Tryz.prog.info? 158).map (fun i=>(i.zero,i.size,i.bytes))=some (some (.agg #[.string ⟨#[]⟩,.bool false,.bool false]),3,24):=by kernel_rfl
theorem step_any{P:Program}{w:World}{ops:Array Oper}{o:Oper}{a:Act}{K:Act→World→Prop}{Q:Exit→Act→World→Prop}{E:Prop}(hgd:o.guard=none)(s x:Operand)(t:TypeId)
  (ho:o.op = .call { callee:=.builtin .append,args:=#[s,x],argTypes:=#[t,t] })
  (base:Nat) (e:TypeId) (i:TypeInfo) (z:Value) (size bytes:Nat) (ht:P.underlying t=some (.slice e)) (hi:P.info? e=some i) (hz:i.zero=some z)
  (hsize:i.size=size) (hby:i.bytes=bytes) (hzs:z.cells.size=size) (hsz:0 < size) (v:Value) (n:Nat) (xs:List Value) (hs:a.eval s=v) (hown:w.ownsRow base e size v n xs)
  (A:Option Addr) (m d:Nat) (news:List Value) (hx:a.eval x = .slice A m d) (hl:news.length=m * size) (hL:Lies w A news) (h1:∀ u∈news,u.oneCell'=true) (h63:n+m≤maxLen) (hbytes:(n+m) * bytes≤140737488355328) (hbase:base≤w.heap.size)
  (h:∀ v' w',w'.ownsRow base e size v' (n+m) (xs ++ news)→w.grownBy w' v.ownBlock→(v'.ownBlock=v.ownBlock∨v'.ownBlock=some w.heap.size)→K (a.put o.dst v') w') :
  if Region.wanted o (yielded ops a.tmps)=true then Oper.wp P o a w K Q else E:=by
 have hw:Region.wanted o (yielded ops a.tmps)=true:=by simp [Region.wanted,hgd]
 rw [if_pos hw];obtain ⟨v',w',hrun,h2,h3,h4⟩:=run_app_any (P:=P) base t o.type e i z size bytes ht hi hz hsize hby hzs hsz v n xs hown A m d news hl hL h1 h63 hbytes hbase;unfold Oper.wp execOp;simp only [ho,resolve,invoke,builtin,Sem.run_bind,Sem.run_pure,Result.andThen_ok,List.map_toArray,List.map_cons,List.map_nil,hs,hx,hrun];exact h v' w' h2 h3 h4
theorem big_lt{m:Nat}(h:m+1≤1099511627776):m < maxLen:=by unfold maxLen;omega
theorem name_(N:Nat→Prop)(lo:Nat)(w:World)(g:Nat)(c:St)(m:Nat)(hc:CK N lo w g c m)(hm:m+1≤1099511627776)(s:Bs)(hs:s.length≤maxLen)(q:Nat)(hq:q≤3) :
  Calls Tryz.prog 139 #[.pointer (some ⟨g,0,none⟩),.string ⟨s.toArray⟩,.int .i64 (q:Int)] w (StepP N lo w g { c with kn:=c.kn.put s (q,0),en:=c.en ++ [s] } (m+1)):=by
 obtain ⟨i0,hi,hz⟩:=Option.map_eq_some_iff.1 infoS;have hz0:=congrArg (·.1) hz;have hz1:=congrArg (·.2.1) hz;have hz2:=congrArg (·.2.2) hz;have HI:=Hi hi;have HZ0:=Hi hz0;have HZ1:=Hi hz1;have HZ2:=Hi hz2;clear hi hz hz0 hz1 hz2;obtain ⟨⟨vs,vp,vo,ve,kb,ob,hv⟩,hbd,henl⟩:=hc;have HENL:=Hi henl;obtain ⟨w1,hrun,hm1,ht⟩:=hv.mp.put hs (big_lt hm) (q,0) hq (Nat.zero_le _);have hU1:Upd (fun b=>b=kb) w w1:=turned_upd ht rfl;have hv1:=hv.kn' hU1 hm1 (Nat.le_succ m);have hN1:Upd N w w1:=hU1.mono fun b hb=>hb ▸ hv.inN _ (by simp) kb rfl
 have e3:w.cell? ⟨g,3,none⟩=some (.map (some kb)):=hv.blk.cell 3;have e5:w1.cell? ⟨g,5,none⟩=some ve:=hv1.blk.cell 5;have hg:g < w.heap.size:=hv.blk.lt;have hg1:g < w1.heap.size:=hv1.blk.lt;have hneg:=hv1.ne.1.2.2.2.2.2;have hrun':(Instr.mapUpdate 108 (.map (some kb)) (.string ⟨s.toArray⟩) (.agg #[.int .i64 (q:Int),.int .i64 0])).run Tryz.prog w = .ok () w1:=hrun;obtain ⟨wn,hwn⟩:∃ wn,w1.alloc (.cells #[.string ⟨s.toArray⟩] 9)=wn:=⟨_,rfl⟩;have hbn:Below w1.heap.size w1 wn:=by rw [←hwn];exact (Below.refl _ _).alloc (Nat.le_refl _) _
 have hLn:Lies wn (some ⟨w1.heap.size,0,none⟩) [strV s]:=by rw [←hwn];exact lies_full _ _ [strV s]
 have hoe:wn.ownsRow lo 9 1 ve c.en.length (c.en.map strV):=own_updV hv1.oe (Upd.of_below hbn fun _=>False) fun _ _ h=>h
 have hen:c.en.length+1≤1099511627776:=by omega
 have hlow:lo≤wn.heap.size:=Nat.le_trans hv1.lo_.2.2.2 hbn.size;have HV:=Hi hv1;have HN1:=Hi hN1;have HW:=Hi hwn;have HBN:=Hi hbn;have HLN:=Hi hLn;have HOE:=Hi hoe;have HBD:=Hi hbd;have HNE:=Hi hneg;have HS1:=Hi hU1.size;have HLOW:=Hi hlow;clear henl hv hv1 hm1 ht hU1 hN1 hrun hwn hbn hLn hoe hbd hneg hlow;go_enter Tryz.func139,Tryz.ntmps139;go_wp2_with (at_builtin;rw [HW.out];refine wpList_where rfl _ _ 60 rfl lo 9 i0 (.string ⟨#[]⟩) 1 16 Tryz.underlying60 HI.out HZ0.out HZ1.out HZ2.out rfl (by decide) _ c.en.length _ rfl HOE.out ⟨w1.heap.size,0,none⟩ 1 1 [strV s] rfl rfl HLN.out (by simp [strV,Value.oneCell']) (by unfold maxLen;omega) (by omega) HLOW.out (by decide) ?_;intro g8 c8 w8 hE;have HE8:=Hi hE;have hu8:=(Upd.of_below HBN.out (fun b=>ve.ownBlock=some b)).grown hE.grown (fun k hk _=>hk);have hb8:=HV.out.blk.upd hu8 HNE.out;clear hE e3 e5;obtain ⟨⟨e0,e1,e2,e3,e4,e5⟩,z0,z1,z2,z3,z4,z5⟩:=Blk.c6 hb8;have hg8:=hb8.lt;have HU8:=Hi hu8;clear hb8 hu8)
 have hown:w8.ownsRow lo 9 1 (.slice (some ⟨g8,0,none⟩) (c.en.length+1) c8) (c.en ++ [s]).length ((c.en ++ [s]).map strV):=by
  rw [List.length_append,List.map_append];exact HE8.out.own
 have hat:(Value.slice (some ⟨g8,0,none⟩) (c.en.length+1) c8).ownBlock=ve.ownBlock∨∃ n,w1.heap.size≤n∧(Value.slice (some ⟨g8,0,none⟩) (c.en.length+1) c8).ownBlock=some n:=by
  rcases HE8.out.at_ with h | h
  ·exact .inl h
  ·exact .inr ⟨g8,by rw [h];exact HBN.out.size,rfl⟩
 have hfin:=HV.out.ve' (en':=c.en ++ [s]) HU8.out hown hat;have HEND:=Hi (show StepP N lo w g { c with kn:=c.kn.put s (q,0),en:=c.en ++ [s] } (m+1) (.returned (.tuple #[])) (w8.setCell ⟨g,5,none⟩ (.slice (some ⟨g8,0,none⟩) (c.en.length+1) c8)) from by
  have hb:=HBD.out;refine ⟨rfl,⟨⟨vs,vp,vo,_,kb,ob,hfin.mono fun b hb _ _=>hb.imp id fun h=>Nat.le_trans HS1.out h⟩,⟨Nat.le_succ_of_le hb.1,Nat.le_succ_of_le hb.2.1,Nat.le_succ_of_le hb.2.2.1,by show (c.en ++ [s]).length≤m+1;simp;omega⟩,fun t ht=>?_⟩,?_⟩
  ·rcases List.mem_append.1 ht with h | h
   ·exact HENL.out t h
   ·rw [List.mem_singleton.1 h];exact hs
  ·exact (HN1.out.trans (HU8.out.mono fun b hb=>HV.out.inN _ (by simp) b hb)).setCell (p:=⟨g,5,none⟩) (fun _=>HV.out.inN _ (by simp) g rfl) _)
 clear hown hat hfin
 first | go_end0 | skip
 all_goals first | exact HEND.out | exact bodyPost_ret (results_none rfl _ _ _) rfl HEND.out
mutual
def lenz:Tz→Prop
 | .mk _ _ s _ ps l=>s.length≤maxLen∧(∀ p∈ps,p.length≤maxLen)∧lenzs l
def lenzs:List Tz→Prop
 | []=>True
 | x :: l=>lenz x∧lenzs l
end
theorem lenzs_at:∀ {l:List Tz},lenzs l→∀ {i:Nat} {x:Tz},l[i]?=some x→lenz x
 | [],_,i,x,h=>by simp at h
 | y :: l,h,0,x,hx=>by
  have:y=x:=by simpa using hx
  subst this;unfold lenzs at h;exact h.1
 | y :: l,h,i+1,x,hx=>by
  unfold lenzs at h;exact lenzs_at h.2 (by simpa using hx)
theorem lenz_parts{k a:Int}{s:Bs}{n:Nat}{ps:List Bs}{l:List Tz}(h:lenz (.mk k a s n ps l)):s.length≤maxLen∧(∀ p∈ps,p.length≤maxLen)∧lenzs l:=by unfold lenz at h;exact h
mutual
def foldT{σ:Type}(f:Tz→σ→Int ⊕ σ):Tz→σ→Int ⊕ σ
 | .mk k a s n ps l,st=>match f (.mk k a s n ps l) st with | .inl a=>.inl a | .inr st=>foldTs f l st
def foldTs{σ:Type}(f:Tz→σ→Int ⊕ σ):List Tz→σ→Int ⊕ σ
 | [],st=>.inr st
 | x :: l,st=>match foldT f x st with | .inl a=>.inl a | .inr st=>foldTs f l st
end
theorem foldT_mk{σ:Type}(f:Tz→σ→Int ⊕ σ)(k a:Int)(s:Bs)(n:Nat)(ps:List Bs)(l:List Tz)(st:σ):foldT f (.mk k a s n ps l) st=match f (.mk k a s n ps l) st with | .inl a=>.inl a | .inr st=>foldTs f l st:=by conv=>lhs;unfold foldT
def VisP{σ:Type}(J:(Nat→Prop)→World→σ→Prop)(N:Nat→Prop)(w:World)(r:Int ⊕ σ)(e:Ending)(w':World):Prop:=
 match r with | .inr st=>e = .returned (.tuple #[])∧J (New N w) w' st∧Upd N w w' | .inl a=>e=panW a∧Upd N w w'
structure Vis{σ:Type}(w0:World)(F:FuncId)(pv qv:Value)(f:Tz→σ→Int ⊕ σ)(J:(Nat→Prop)→World→σ→Prop)(cost:σ→Nat)(lim:Nat):Prop where
 step:∀ z st st',f z st = .inr st'→cost st'≤cost st+1
 enter:∀ (a:Value) (w:World),(callFunc F #[a,pv,qv]).run Tryz.prog w = .ok (.enter F #[a,pv,qv]) w
 mono:∀ N N' w st,J N w st→(∀ b,N b→b < w.heap.size→N' b)→J N' w st
 below:∀ N w w' st,J N w st→Below w.heap.size w w'→J N w' st
 call:∀ N w st z k a s n A la cA B lb cB,Below w0.heap.size w0 w→TIz w0 z (nzC k a s n A la cA B lb cB)→lenz z→cost st+1≤lim→J N w st→Calls Tryz.prog F #[nzA k a s n A la cA B lb cB,pv,qv] w (VisP J N w (f z st))
mutual
theorem fold_cost{σ:Type}{f:Tz→σ→Int ⊕ σ}{cost:σ→Nat}(hf:∀ z st st',f z st = .inr st'→cost st'≤cost st+1):∀ (z:Tz) (st st':σ),foldT f z st = .inr st'→cost st'≤cost st+cntz z
 | .mk k a s n ps l,st,st',h=>by
  rw [foldT_mk] at h;unfold cntz;cases h1:f (.mk k a s n ps l) st with
  | inl a=>rw [h1] at h;cases h
  | inr s1=>
   rw [h1] at h;have h2:=hf _ _ _ h1;have h3:=folds_cost hf l s1 st' h;omega
theorem folds_cost{σ:Type}{f:Tz→σ→Int ⊕ σ}{cost:σ→Nat}(hf:∀ z st st',f z st = .inr st'→cost st'≤cost st+1):∀ (l:List Tz) (st st':σ),foldTs f l st = .inr st'→cost st'≤cost st+cnts l
 | [],st,st',h=>by
  unfold foldTs at h;cases h;exact Nat.le_add_right _ _
 | x :: l,st,st',h=>by
  unfold foldTs at h;unfold cnts;cases h1:foldT f x st with
  | inl a=>rw [h1] at h;cases h
  | inr s1=>
   rw [h1] at h;have h2:=fold_cost hf x st s1 h1;have h3:=folds_cost hf l s1 st' h;omega
end
theorem foldTs_cons{σ:Type}(f:Tz→σ→Int ⊕ σ)(x:Tz)(l:List Tz)(st:σ):foldTs f (x :: l) st=match foldT f x st with | .inl a=>.inl a | .inr st=>foldTs f l st:=by conv=>lhs;unfold foldTs
theorem drop_at{α:Type}{l:List α}{i:Nat}{x:α}(h:l[i]?=some x):l.drop i=x :: l.drop (i+1):=by
 have hlt:i < l.length:=(List.getElem?_eq_some_iff.1 h).1;rw [List.drop_eq_getElem_cons hlt]
 congr 1
 rw [List.getElem?_eq_getElem hlt] at h;exact Option.some.inj h
theorem partz_b{q:Prop}{w0 w:World}(hb:Below w0.heap.size w0 w){l:List Tz}{css:List (List Value)}{A:Option Addr}(hL:Lies w0 A css.flatten)(hT:TsIc q w0 l css){i:Nat}{y:Tz}(h:l[i]?=some y) :
  ∃ b o k a s n A' la cA B lb cB,A=some ⟨b,o,none⟩∧TIc q w0 y (nzC k a s n A' la cA B lb cB)∧b < w0.heap.size∧w.cell? ⟨b,o+i * 6,none⟩=some (.int .i64 k)∧w.cell? ⟨b,o+i * 6+1,none⟩=some (.string ⟨s.toArray⟩) ∧
   w.cell? ⟨b,o+i * 6+2,none⟩=some (.int .u32 (n:Int))∧w.cell? ⟨b,o+i * 6+3,none⟩=some (.int .i64 a)∧w.cell? ⟨b,o+i * 6+4,none⟩=some (.slice A' la cA)∧w.cell? ⟨b,o+i * 6+5,none⟩=some (.slice B lb cB):=by
 obtain ⟨b,o,k,a,s,n,A',la,cA,B,lb,cB,h1,h2,h3,e0,e1,e2,e3,e4,e5⟩:=partz_at hL hT h;exact ⟨b,o,k,a,s,n,A',la,cA,B,lb,cB,h1,h2,h3,(hb.cell h3).trans e0,(hb.cell h3).trans e1,(hb.cell h3).trans e2,(hb.cell h3).trans e3,(hb.cell h3).trans e4,(hb.cell h3).trans e5⟩
theorem each{σ:Type}{w0:World}{F:FuncId}{pv qv:Value}{f:Tz→σ→Int ⊕ σ}{J:(Nat→Prop)→World→σ→Prop}{cost:σ→Nat}{lim:Nat}(V:Vis w0 F pv qv f J cost lim):∀ (m:Nat) (z:Tz),SizeOf.sizeOf z < m→∀ (N:Nat→Prop) (w:World) (st:σ) (k a:Int) (s:Bs) (n:Nat) (A:Option Addr) (la cA:Nat) (B:Option Addr) (lb cB:Nat),
  Below w0.heap.size w0 w→TIz w0 z (nzC k a s n A la cA B lb cB)→lenz z→(∀ b,N b→w0.heap.size≤b)→cost st+cntz z≤lim→J N w st →
  Calls Tryz.prog 162 #[nzA k a s n A la cA B lb cB,.func (.func F) #[] #[pv,qv]] w (VisP J N w (foldT f z st))
 | 0,z,h=>absurd h (Nat.not_lt_zero _)
 | m+1,.mk k1 a1 s1 n1 ps l,hm=>fun N w st k a s n A la cA B lb cB hb hT hlz hN hcst hJ=>by
  have hTT:=hT;obtain ⟨rfl,rfl,rfl,rfl,rfl,rfl,hl,hp,hB,css,hL,hS⟩:=tIz_parts hT;have hlm:l.length≤9223372036854775807:=hl;obtain ⟨wn,hwn,hbn,hXn,hsn⟩:=a_box w (nB k a s n A l.length cA B ps.length cB);have hJ1:J (fun b=>N b∧b < w.heap.size) wn st:=V.below _ _ _ _ (V.mono _ (fun b=>N b∧b < w.heap.size) _ _ hJ fun b h1 h2=>⟨h1,h2⟩) hbn;have hb1:=hb.trans (hbn.mono hb.size);have hC:=V.call _ wn st _ k a s n A l.length cA B ps.length cB hb1 hTT hlz (by unfold cntz at hcst;omega) hJ1;have hls:=(lenz_parts hlz).2.2;obtain ⟨⟨e0,e1,e2,e3,e4,e5⟩,z0,z1,z2,z3,z4,z5⟩:=Blk.c6 hXn;have hgl:=hXn.lt;have HL:=Hi hL;have HS:=Hi hS;have HM:=Hi hm;have HLS:=Hi hls;have HNN:=Hi hN;have HW0:=Hi hb1;have IH:=Hi (each V m);have HC:=Hi hC;have HWN:=Hi hwn;have HBN:=Hi hbn;have HXN:=Hi hXn;have HSN:=Hi hsn;have HV:=Hi V;have HCS:=Hi (fun st1 (h:f (.mk k a s n ps l) st = .inr st1)=>show cost st1+cnts l≤lim by have:=V.step _ _ _ h;unfold cntz at hcst;omega);have hen:=V.enter;have hfold:foldT f (.mk k a s n ps l) st=match f (.mk k a s n ps l) st with | .inl a=>.inl a | .inr st=>foldTs f l st:=by conv=>lhs;unfold foldT
  rw [hfold];clear hfold hT hTT hB hL hS hm hp hlz hls hN hcst hJ hJ1 hb hb1 hC hwn hbn hXn V hsn hl;generalize f (.mk k a s n ps l) st=r1 at HC HCS ⊢;go_enter Tryz.func162,Tryz.ntmps162;go_wp2_with fail
  rw [HWN.out];refine (show Calls Tryz.prog F #[nzA k a s n A l.length cA B ps.length cB,pv,qv] wn _ from HC.out).mono ?_;intro e w1 h1;cases r1 with
  | inl a1=>
   obtain ⟨rfl,hu1⟩:=h1;have HEND:=Hi (show Upd N w w1 from (Upd.of_below HBN.out N).trans (hu1.fresh fun b hb _=>hb.1));clear hu1;go_wp2_with fail
   exact ⟨rfl,rfl,HEND.out⟩
  | inr st1=>
   obtain ⟨rfl,hj1,hu1⟩:=h1;have HC1:=Hi (HCS.out st1 rfl);have hX1:=HXN.out.upd hu1 (fun h=>Nat.lt_irrefl _ h.2);have HX1:=Hi hX1;have HU1:=Hi (show Upd N w w1 from (Upd.of_below HBN.out N).trans (hu1.mono fun b hb=>hb.1));have HJ1:=Hi (HV.out.mono _ (fun b=>(N b∧b < w.heap.size)∨wn.heap.size≤b) _ _ hj1 fun b h1 _=>h1);have HB1:=Hi (HW0.out.trans ((hu1.below (B:=w0.heap.size) HW0.out.size fun b hb=>HNN.out b hb.1)));have hs1:=hu1.size;clear hu1 hj1 e0 e1 e2 e3 e4 e5 z0 z1 z2 z3 z4 z5;obtain ⟨⟨e0,e1,e2,e3,e4,e5⟩,z0,z1,z2,z3,z4,z5⟩:=Blk.c6 hX1;clear hX1;go_wp2_with fail
   go_loopw [12] (fun vi wr=>∃ (i:Nat) (sti:σ),i≤l.length∧vi = .int .i64 (i:Int)∧Hid (J (fun b=>(N b∧b < w.heap.size)∨wn.heap.size≤b) wr sti)∧Hid (Upd N w wr)∧Hid (Below w0.heap.size w0 wr)∧Hid (Blk wr w.heap.size 62 (nB k a s n A l.length cA B ps.length cB))∧Hid (foldTs f (l.drop i) sti=foldTs f l st1)∧Hid (wn.heap.size≤wr.heap.size)∧Hid (cost sti+cnts (l.drop i)≤lim)) (fun vi _=>l.length - (intOf vi).toNat)
   case atStart=>exact ⟨0,st1,by omega,rfl,HJ1,HU1,HB1,HX1,Hi rfl,Hi hs1,Hi HC1.out⟩
   case round=>
    obtain ⟨i,sti,hi,rfl,HJ,HU,HB,HX,HQ,HSZ,HCI⟩:=hrel;by_cases hlt:i < l.length
    ·have hil:(i:Int) < (l.length:Int):=by omega
     obtain ⟨y,hy⟩:∃ y,l[i]?=some y:=⟨_,List.getElem?_eq_getElem hlt⟩;obtain ⟨b,o,k',a',s',n',A',la',cA',B',lb',cB',rfl,hTy,hb,g0,g1,g2,g3,g4,g5⟩:=partz_b HB.out HL.out HS.out hy;obtain ⟨wb,hwb,hbb,hXb,hsb⟩:=a_box wr (nB k' a' s' n' A' la' cA' B' lb' cB');have hsy:SizeOf.sizeOf y < m:=by have:=size_memz (k:=k) (a:=a) (n:=n) (s:=s) (ps:=ps) hy;have:=HM.out;omega
     have hJb:=HV.out.below _ _ _ _ (HV.out.mono _ (fun b=>((N b∧b < w.heap.size)∨wn.heap.size≤b)∧b < wr.heap.size) _ _ HJ.out fun b h1 h2=>⟨h1,h2⟩) hbb;have hci:=HCI.out;rw [drop_at hy] at hci;unfold cnts at hci;have hC:=IH.out y hsy _ wb sti k' a' s' n' A' la' cA' B' lb' cB' (HB.out.trans (hbb.mono HB.out.size)) hTy (lenzs_at HLS.out hy) (fun b hb=>by
      rcases hb.1 with h | h
      ·exact HNN.out b h.1
      ·exact Nat.le_trans HW0.out.size h) (by omega) hJb
     have HCY:=Hi (fun st2 (h:foldT f y sti = .inr st2)=>show cost st2+cnts (l.drop (i+1))≤lim by have:=fold_cost HV.out.step y sti st2 h;omega);have hq:=HQ.out;rw [drop_at hy,foldTs_cons] at hq;obtain ⟨⟨e0,e1,e2,e3,e4,e5⟩,z0,z1,z2,z3,z4,z5⟩:=Blk.c6 hXb;have HC:=Hi hC;have HWB:=Hi hwb;have HBB:=Hi hbb;have HQ2:=Hi hq;have hrl:=hXb.lt;have HXb:=Hi (HX.out.below hbb HX.out.lt);clear hC hwb hbb hXb hq hJb hTy hsy hy hci;generalize foldT f y sti=r2 at HC HQ2 HCY;go_wp2_with fail
     rw [HWB.out];refine (show Calls Tryz.prog 162 #[nzA k' a' s' n' A' la' cA' B' lb' cB',.func (.func F) #[] #[pv,qv]] wb _ from HC.out).mono ?_;intro e w4 h4;cases r2 with
     | inl a2=>
      obtain ⟨rfl,hu4⟩:=h4;have HQ3:=Hi HQ2.out.symm;have HEND:=Hi (upd_then (upd_then HU.out (Upd.of_below HBB.out fun _=>False) fun _ h=>h.elim) hu4 fun b hb hs=>by
       rcases hb.1 with h | h
       ·exact h.1
       ·have:=HSN.out;omega)
      clear hu4;go_wp2_with fail
      exact ⟨rfl,by rw [HQ3.out];exact ⟨rfl,HEND.out⟩⟩
     | inr st2=>
      obtain ⟨rfl,hj4,hu4⟩:=h4;have HJ4:=Hi (HV.out.mono _ (fun b=>(N b∧b < w.heap.size)∨wn.heap.size≤b) _ _ hj4 fun b h1 _=>by
       rcases h1 with h | h
       ·exact h.1
       ·exact .inr (by have:=HSZ.out;omega))
      have HU4:=Hi (upd_then (upd_then HU.out (Upd.of_below HBB.out fun _=>False) fun _ h=>h.elim) hu4 fun b hb hs=>by
       rcases hb.1 with h | h
       ·exact h.1
       ·have:=HSN.out;omega)
      have HB4:=Hi ((HB.out.trans (HBB.out.mono HB.out.size)).trans (hu4.below (B:=w0.heap.size) (Nat.le_trans HB.out.size HBB.out.size) fun b hb=>by
       rcases hb.1 with h | h
       ·exact HNN.out b h.1
       ·exact Nat.le_trans HW0.out.size h))
      have HX4:=Hi (HXb.out.upd hu4 fun hb=>by
       rcases hb.1 with h | h
       ·exact Nat.lt_irrefl _ h.2
       ·have:=HSN.out;omega)
      have HSZ4:=Hi (show wn.heap.size≤w4.heap.size by have:=hu4.size;have:=HSZ.out;omega);clear hj4 hu4;go_wp2_with fail
      go_roundw
      case rel=>exact ⟨i+1,st2,by omega,by go_num,HJ4,HU4,HB4,HX4,HQ2,HSZ4,Hi (HCY.out st2 rfl)⟩
      case measure=>simp [intOf];omega
    ·obtain rfl:i=l.length:=by omega
     have hq:=HQ.out;rw [List.drop_length] at hq
     conv at hq=>lhs;unfold foldTs
     have HQ2:=Hi hq.symm;clear hq;have HEND:=Hi (show VisP J N w (.inr sti) (.returned (.tuple #[])) wr from ⟨rfl,HV.out.mono _ _ _ _ HJ.out fun b h1 _=>h1.imp (fun h=>h.1) fun h=>Nat.le_trans (by have:=HSN.out;omega) h,HU.out⟩);go_wp2_with fail
     first | go_end0 | skip
     all_goals first | (rw [HQ2.out];exact HEND.out) | (refine bodyPost_ret (results_none rfl _ _ _) rfl ?_;show VisP J N w (foldTs f l st1) _ _;rw [HQ2.out];exact HEND.out)
end Go.Proofs.YtdhoemlomojfaaaGreatDoor.Nm
namespace Go.Proofs.YtdhoemlomojfaaaGreatDoor.Fl
open Go Go.ChangeShapes Go.WideShapes Go.ChangeAt Go.RowKit Lx Args Pa Sh Go.Proofs.YtdhoemlomojfaaaGreatDoor.Nm
noncomputable def Cod.of {α:Type} (enc:α→Value) (dat:α→DataW Unit) (he:∀ a b,enc a=enc b→a=b) (hd:∀ a b,dat a=dat b→a=b):Cod α where
 enc:=enc
 dat:=dat
 rd:=fun v=>@dite _ (∃ a,enc a=v) (Classical.propDecidable _) (fun h=>some (dat h.choose,[])) fun _=>none
 rd_enc:=fun a=>by
  have h:∃ b,enc b=enc a:=⟨a,rfl⟩;rw [dif_pos h,he _ _ h.choose_spec]
 inv:=fun v a ps h=>by
  by_cases hv:∃ b,enc b=v
  ·rw [dif_pos hv] at h;have h1:dat hv.choose=dat a:=by
    have:=Option.some.inj h;exact congrArg (·.1) this
   rw [←hd _ _ h1];exact hv.choose_spec.symm
  ·rw [dif_neg hv] at h;cases h
def loN(m:Option (BitVec 32)):Int:=((m.getD 0).toNat:Int)
def wkV(m:Wk):Value:=.agg #[.bool m.sec,.bool m.loo.isSome,.int .u32 (loN m.loo)]
def wkD(m:Wk):DataW Unit:=.agg [.lit (.bool m.sec),.lit (.bool m.loo.isSome),.lit (.int .u32 (loN m.loo))]
theorem lo_inj{a b:Option (BitVec 32)}(h1:a.isSome=b.isSome)(h2:loN a=loN b):a=b:=by
 cases a with
 | none=>cases b with
  | none=>rfl
  | some y=>cases h1
 | some x=>cases b with
  | none=>cases h1
  | some y=>
   have:x.toNat=y.toNat:=Int.ofNat.inj h2;rw [BitVec.eq_of_toNat_eq this]
noncomputable def codW:Cod Wk:=Cod.of wkV wkD (fun a b h=>by
  obtain ⟨s,l⟩:=a;obtain ⟨s',l'⟩:=b;simp only [wkV,Value.agg.injEq,Array.mk.injEq,List.cons.injEq,Value.bool.injEq,Value.int.injEq,true_and,and_true] at h;obtain ⟨rfl,h1,h2⟩:=h;rw [lo_inj h1 h2]) fun a b h=>by
  obtain ⟨s,l⟩:=a;obtain ⟨s',l'⟩:=b;simp only [wkD,DataW.agg.injEq,List.cons.injEq,DataW.lit.injEq,Lit.bool.injEq,Lit.int.injEq,true_and,and_true] at h;obtain ⟨rfl,h1,h2⟩:=h;rw [lo_inj h1 h2]
structure Nd where
 k:Int
 a:Int
 s:Bs
 n:Nat
 A:Option Addr
 la:Nat
 cA:Nat
 B:Option Addr
 lb:Nat
 cB:Nat
def ndV(d:Nd):Value:=nzA d.k d.a d.s d.n d.A d.la d.cA d.B d.lb d.cB
def natD(n:Nat):DataW Unit:=.lit (.int .i64 (n:Int))
def adD:Option Addr→DataW Unit
 | none=>.nil
 | some ⟨b,o,none⟩=>.agg [natD b,natD o]
 | some ⟨b,o,some p⟩=>.agg [natD b,natD o,natD p]
theorem natD_inj{a b:Nat}(h:natD a=natD b):a=b:=by
 simp only [natD,DataW.lit.injEq,Lit.int.injEq,true_and] at h;omega
theorem adD_inj:∀ {A B:Option Addr},adD A=adD B→A=B
 | none,none,_=>rfl
 | some ⟨b,o,none⟩,none,h=>by simp [adD] at h
 | some ⟨b,o,some p⟩,none,h=>by simp [adD] at h
 | none,some ⟨b,o,none⟩,h=>by simp [adD] at h
 | none,some ⟨b,o,some p⟩,h=>by simp [adD] at h
 | some ⟨b,o,none⟩,some ⟨b',o',none⟩,h=>by
  simp only [adD,DataW.agg.injEq,List.cons.injEq,and_true] at h;rw [natD_inj h.1,natD_inj h.2]
 | some ⟨b,o,none⟩,some ⟨b',o',some p'⟩,h=>by simp [adD] at h
 | some ⟨b,o,some p⟩,some ⟨b',o',none⟩,h=>by simp [adD] at h
 | some ⟨b,o,some p⟩,some ⟨b',o',some p'⟩,h=>by
  simp only [adD,DataW.agg.injEq,List.cons.injEq,and_true] at h;rw [natD_inj h.1,natD_inj h.2.1,natD_inj h.2.2]
def ndD(d:Nd):DataW Unit:=.agg [.lit (.int .i64 d.k),.lit (.int .i64 d.a),.lit (.string d.s),natD d.n,adD d.A,natD d.la,natD d.cA,adD d.B,natD d.lb,natD d.cB]
noncomputable def codN:Cod Nd:=Cod.of ndV ndD (fun a b h=>by
  obtain ⟨k,a,s,n,A,la,cA,B,lb,cB⟩:=a;obtain ⟨k',a',s',n',A',la',cA',B',lb',cB'⟩:=b;simp only [ndV,Value.agg.injEq,Array.mk.injEq,List.cons.injEq,Value.string.injEq,Value.slice.injEq,Value.int.injEq,true_and,and_true] at h;obtain ⟨rfl,h1,h2,rfl,⟨rfl,rfl,rfl⟩,rfl,rfl,rfl⟩:=h;have e1:s=s':=by
   have:=congrArg (fun b:ByteArray=>b.data.toList) h1;simpa using this
  have e2:n=n':=by omega
  rw [e1,e2]) fun a b h=>by
  obtain ⟨k,a,s,n,A,la,cA,B,lb,cB⟩:=a;obtain ⟨k',a',s',n',A',la',cA',B',lb',cB'⟩:=b;simp only [ndD,DataW.agg.injEq,List.cons.injEq,DataW.lit.injEq,Lit.int.injEq,Lit.string.injEq,true_and,and_true] at h;obtain ⟨rfl,rfl,rfl,h1,h2,h3,h4,h5,h6,h7⟩:=h;rw [natD_inj h1,adD_inj h2,natD_inj h3,natD_inj h4,adD_inj h5,natD_inj h6,natD_inj h7]
/-! The maps' runs. -/
abbrev zWk:Wk:=⟨false,none⟩
abbrev zNd:Nd:=⟨0,0,[],0,none,0,0,none,0,0⟩
theorem zFa(w:World):(zeroValue 143).run Tryz.prog w = .ok (codW.enc zWk) w:=by
 show _=Result.ok (wkV zWk) w;kernel_rfl
theorem zNo(w:World):(zeroValue 62).run Tryz.prog w = .ok (codN.enc zNd) w:=by
 show _=Result.ok (ndV zNd) w;kernel_rfl
theorem uFa:Tryz.prog.underlying 95=some (.map 9 143):=by kernel_rfl
theorem uFn:Tryz.prog.underlying 80=some (.map 9 62):=by kernel_rfl
def wkAt(kn:Kw)(s:Bs):Wk:=(kn s).getD zWk
theorem wkAt_lo(kn:Kw)(s:Bs):(wkAt kn s).loo=looB kn s:=by
 unfold wkAt looB;cases kn s <;> rfl
theorem wkAt_sec(kn:Kw)(s:Bs):(wkAt kn s).sec=secB kn s:=by
 unfold wkAt secB;cases kn s <;> rfl
abbrev MpW(w:World)(b n:Nat)(kn:Kw):Prop:=MpG codW w b n kn
abbrev MpN(w:World)(b n:Nat)(kn:Bs→Option Nd):Prop:=MpG codN w b n kn
section
variable {w : World} {b n : Nat} {kn : Kw} {kd : Bs → Option Nd} {s : Bs}
theorem mpw_look(h:MpW w b n kn)(hs:s.length≤maxLen):(Instr.lookup 95 (.map (some b)) (.string ⟨s.toArray⟩) true).run Tryz.prog w = .ok (.tuple #[wkV (wkAt kn s),.bool (kn s).isSome]) w:=h.look hs uFa (zFa w)
theorem mpw_look1(h:MpW w b n kn)(hs:s.length≤maxLen):(Instr.lookup 95 (.map (some b)) (.string ⟨s.toArray⟩) false).run Tryz.prog w = .ok (wkV (wkAt kn s)) w:=h.look1 hs uFa (zFa w)
theorem mpw_put(h:MpW w b n kn)(hs:s.length≤maxLen)(hn:n < maxLen)(m:Wk) :
  ∃ w',(Instr.mapUpdate 95 (.map (some b)) (.string ⟨s.toArray⟩) (wkV m)).run Tryz.prog w = .ok () w'∧MpW w' b (n+1) (kn.put s m)∧w.mapTurned w' b:=h.put hs hn uFa m
theorem mpn_look1(h:MpN w b n kd)(hs:s.length≤maxLen):(Instr.lookup 80 (.map (some b)) (.string ⟨s.toArray⟩) false).run Tryz.prog w = .ok (ndV ((kd s).getD zNd)) w:=h.look1 hs uFn (zNo w)
theorem mpn_put(h:MpN w b n kd)(hs:s.length≤maxLen)(hn:n < maxLen)(m:Nd) :
  ∃ w',(Instr.mapUpdate 80 (.map (some b)) (.string ⟨s.toArray⟩) (ndV m)).run Tryz.prog w = .ok () w'∧MpN w' b (n+1) (fun t=>if t=s then some m else kd t)∧w.mapTurned w' b:=h.put hs hn uFn m
end
def FnD(w0:World)(f:List Bs×List Tz)(d:Nd):Prop:=TIc True w0 (.mk d.k d.a d.s d.n f.1 f.2) (nzC d.k d.a d.s d.n d.A d.la d.cA d.B d.lb d.cB)∧(∀ p∈f.1,p.length≤maxLen)∧lenzs f.2∧nzs f.2
def FuM(w0 w:World)(b n:Nat)(fu:Fu):Prop:=
 ∃ kd,MpN w b n kd∧∀ s,match fu s with | none=>kd s=none | some f=>∃ d,kd s=some d∧FnD w0 f d
section
variable {w0 w w' : World} {b n : Nat} {fu : Fu} {X : Nat → Prop}
theorem FuM.upd(h:FuM w0 w b n fu)(hu:Upd X w w')(hx:¬ X b):FuM w0 w' b n fu:=by
 obtain ⟨kd,h1,h2⟩:=h;exact ⟨kd,h1.upd hu hx,h2⟩
theorem FuM.lt(h:FuM w0 w b n fu):b < w.heap.size:=by obtain ⟨kd,h1,h2⟩:=h;exact h1.lt
theorem FuM.mono(h:FuM w0 w b n fu){m:Nat}(hm:n≤m):FuM w0 w b m fu:=by
 obtain ⟨kd,h1,h2⟩:=h;exact ⟨kd,h1.mono hm,h2⟩
end
theorem nzs_at:∀ {l:List Tz},nzs l→∀ {i:Nat} {x:Tz},l[i]?=some x→nz x
 | [],_,i,x,h=>by simp at h
 | y :: l,h,0,x,hx=>by
  have:y=x:=by simpa using hx
  subst this;unfold nzs at h;exact h.1
 | y :: l,h,i+1,x,hx=>by
  unfold nzs at h;exact nzs_at h.2 (by simpa using hx)
theorem nz_parts{k a:Int}{s:Bs}{n:Nat}{ps:List Bs}{l:List Tz}(h:nz (.mk k a s n ps l)):n < 4294967296∧nzs l:=by unfold nz at h;exact h
theorem nzs_take:∀ (i:Nat) {l:List Tz},nzs l→nzs (l.take i)
 | 0,l,h=>by simp [nzs]
 | i+1,[],h=>by simp [nzs]
 | i+1,x :: l,h=>by
  unfold nzs at h;rw [List.take_succ_cons];unfold nzs;exact ⟨h.1,nzs_take i h.2⟩
theorem nzs_drop:∀ (i:Nat) {l:List Tz},nzs l→nzs (l.drop i)
 | 0,l,h=>h
 | i+1,[],h=>by simp [nzs]
 | i+1,x :: l,h=>by
  unfold nzs at h;rw [List.drop_succ_cons];exact nzs_drop i h.2
theorem lenzs_take:∀ (i:Nat) {l:List Tz},lenzs l→lenzs (l.take i)
 | 0,l,h=>by simp [lenzs]
 | i+1,[],h=>by simp [lenzs]
 | i+1,x :: l,h=>by
  unfold lenzs at h;rw [List.take_succ_cons];unfold lenzs;exact ⟨h.1,lenzs_take i h.2⟩
theorem lenzs_drop:∀ (i:Nat) {l:List Tz},lenzs l→lenzs (l.drop i)
 | 0,l,h=>h
 | i+1,[],h=>by simp [lenzs]
 | i+1,x :: l,h=>by
  unfold lenzs at h;rw [List.drop_succ_cons];exact lenzs_drop i h.2
theorem tsIz_drop{q:Prop}{w:World}:∀ (i:Nat) {l:List Tz} {css:List (List Value)},TsIc q w l css→TsIc q w (l.drop i) (css.drop i)
 | 0,l,css,h=>h
 | i+1,[],css,h=>by unfold TsIc at h;subst h;simp [TsIc]
 | i+1,x :: l,css,h=>by
  unfold TsIc at h;obtain ⟨c,r,rfl,h2,h3⟩:=h;rw [List.drop_succ_cons,List.drop_succ_cons];exact tsIz_drop i h3
theorem tsIz_take{q:Prop}{w:World}:∀ (i:Nat) {l:List Tz} {css:List (List Value)},TsIc q w l css→TsIc q w (l.take i) (css.take i)
 | 0,l,css,h=>by simp [TsIc]
 | i+1,[],css,h=>by unfold TsIc at h;subst h;simp [TsIc]
 | i+1,x :: l,css,h=>by
  unfold TsIc at h;obtain ⟨c,r,rfl,h2,h3⟩:=h;rw [List.take_succ_cons,List.take_succ_cons];unfold TsIc;exact ⟨c,_,rfl,h2,tsIz_take i h3⟩
theorem flat_drop{q:Prop}{w:World}:∀ (i:Nat) {l:List Tz} {css:List (List Value)},TsIc q w l css→i≤l.length→(css.drop i).flatten=css.flatten.drop (i * 6)
 | 0,l,css,h,_=>by simp
 | i+1,[],css,h,hi=>absurd hi (Nat.not_succ_le_zero _)
 | i+1,x :: l,css,h,hi=>by
  unfold TsIc at h;obtain ⟨c,r,rfl,h2,h3⟩:=h;have hc:c.length = 6:=by obtain ⟨_,_,_,_,_,_,_,_,_,_,rfl⟩:=tIz_cells h2;rfl
  have e1:c.drop ((i+1) * 6)=[]:=List.drop_eq_nil_of_le (by omega);rw [List.drop_succ_cons,flat_drop i h3 (by simpa using hi),List.flatten_cons,List.drop_append,e1,hc,List.nil_append]
  congr 1
  omega
theorem lies_take{w:World}{A:Option Addr}{xs ys:List Value}(h:Lies w A (xs ++ ys)):Lies w A xs:=fun j u hj=>h j u (by
 have:=(List.getElem?_eq_some_iff.1 hj).1;rw [List.getElem?_append_left this];exact hj)
theorem flat_take{q:Prop}{w:World}{A:Option Addr}{W:World}(i:Nat){css:List (List Value)}(h:Lies W A css.flatten):Lies W A (css.take i).flatten:=by
 have e:css.flatten=(css.take i).flatten ++ (css.drop i).flatten:=by rw [←List.flatten_append,List.take_append_drop]
 rw [e] at h;exact lies_take h
structure Pts(w:World)(A:Option Addr)(c:Nat)(l:List Tz):Prop where
 lies:∃ css,Lies w A css.flatten∧TsIc True w l css
 le:l.length≤c
 cap:c≤maxLen
 len:lenzs l
 num:nzs l
theorem Pts.below{w w':World}{A:Option Addr}{c:Nat}{l:List Tz}(h:Pts w A c l)(hb:Below w.heap.size w w'):Pts w' A c l:=by
 obtain ⟨⟨css,h1,h2⟩,h3,h4,h5,h6⟩:=h;exact ⟨⟨css,h1.below hb,TsIz.below hb h2⟩,h3,h4,h5,h6⟩
theorem Pts.take{w:World}{A:Option Addr}{c c':Nat}{l:List Tz}(h:Pts w A c l)(i:Nat)(h1:(l.take i).length≤c')(h2:c'≤maxLen){A':Option Addr}(hA:∀ W xs,Lies W A xs→Lies W A' xs):Pts w A' c' (l.take i):=by
 obtain ⟨⟨css,g1,g2⟩,h3,h4,h5,h6⟩:=h;exact ⟨⟨css.take i,hA _ _ (flat_take (q:=True) (w:=w) i g1),tsIz_take i g2⟩,h1,h2,lenzs_take i h5,nzs_take i h6⟩
theorem Pts.drop{w:World}{A:Option Addr}{c c':Nat}{l:List Tz}(h:Pts w A c l)(i:Nat)(h1:(l.drop i).length≤c')(h2:c'≤maxLen){A':Option Addr}(hA:0 < l.length - i→∀ W xs,Lies W A xs→Lies W A' (xs.drop (i * 6))):Pts w A' c' (l.drop i):=by
 obtain ⟨⟨css,g1,g2⟩,h3,h4,h5,h6⟩:=h;rcases Nat.lt_or_ge i l.length with hi | hi
 ·refine ⟨⟨css.drop i,?_,tsIz_drop i g2⟩,h1,h2,lenzs_drop i h5,nzs_drop i h6⟩;rw [flat_drop i g2 (Nat.le_of_lt hi)];exact hA (by omega) _ _ g1
 ·rw [List.drop_eq_nil_of_le hi] at h1 ⊢;exact ⟨⟨[],fun j u hj=>by simp at hj,by unfold TsIc;rfl⟩,h1,h2,by unfold lenzs;trivial,by unfold nzs;trivial⟩
def TrV(w:World)(z:Tz)(k a:Int)(s:Bs)(n:Nat)(A:Option Addr)(la cA:Nat)(B:Option Addr)(lb cB:Nat):Prop:=TIc True w z (nzC k a s n A la cA B lb cB)∧lenz z∧nz z
theorem TrV.below{w w':World}{z:Tz}{k a:Int}{s:Bs}{n:Nat}{A:Option Addr}{la cA:Nat}{B:Option Addr}{lb cB:Nat}(h:TrV w z k a s n A la cA B lb cB)(hb:Below w.heap.size w w'):TrV w' z k a s n A la cA B lb cB:=⟨TIz.below hb h.1,h.2⟩
theorem TrV.parts{w:World}{k1 a1:Int}{s1:Bs}{n1:Nat}{ps:List Bs}{l:List Tz}{k a:Int}{s:Bs}{n:Nat}{A:Option Addr}{la cA:Nat}{B:Option Addr}{lb cB:Nat}(h:TrV w (.mk k1 a1 s1 n1 ps l) k a s n A la cA B lb cB) :
  k=k1∧a=a1∧s=s1∧n=n1∧la=l.length∧lb=ps.length∧Pts w A cA l∧s1.length≤maxLen∧n1 < 4294967296∧Lies w B (ps.map strV)∧(∀ p∈ps,p.length≤maxLen)∧lb≤cB∧cB≤maxLen:=by
 obtain ⟨h1,h2,h3⟩:=h;obtain ⟨c1,c2⟩:=tIz_cap h1;obtain ⟨d1,d2⟩:=tIz_pcap h1;obtain ⟨rfl,rfl,rfl,rfl,rfl,rfl,hl,hp,hB,css,hL,hS⟩:=tIz_parts h1;obtain ⟨g1,g2,g3⟩:=lenz_parts h2;obtain ⟨i1,i2⟩:=nz_parts h3;exact ⟨rfl,rfl,rfl,rfl,rfl,rfl,⟨⟨css,hL,hS⟩,c1,c2,g3,i2⟩,g1,i1,hB,g2,d1,d2⟩
theorem Pts.at_{w0 w:World}{A:Option Addr}{c:Nat}{l:List Tz}(h:Pts w0 A c l)(hb:Below w0.heap.size w0 w){i:Nat}{y:Tz}(hy:l[i]?=some y) :
  ∃ b o k a s n A' la cA B lb cB,A=some ⟨b,o,none⟩∧TrV w0 y k a s n A' la cA B lb cB∧b < w0.heap.size∧w.cell? ⟨b,o+i * 6,none⟩=some (.int .i64 k)∧w.cell? ⟨b,o+i * 6+1,none⟩=some (.string ⟨s.toArray⟩) ∧
   w.cell? ⟨b,o+i * 6+2,none⟩=some (.int .u32 (n:Int))∧w.cell? ⟨b,o+i * 6+3,none⟩=some (.int .i64 a)∧w.cell? ⟨b,o+i * 6+4,none⟩=some (.slice A' la cA)∧w.cell? ⟨b,o+i * 6+5,none⟩=some (.slice B lb cB):=by
 obtain ⟨⟨css,g1,g2⟩,_,_,h5,h6⟩:=h;obtain ⟨b,o,k,a,s,n,A',la,cA,B,lb,cB,h1,h2,h3,e0,e1,e2,e3,e4,e5⟩:=partz_b hb g1 g2 hy;exact ⟨b,o,k,a,s,n,A',la,cA,B,lb,cB,h1,⟨h2,lenzs_at h5 hy,nzs_at h6 hy⟩,h3,e0,e1,e2,e3,e4,e5⟩
abbrev panF(a:Int)(er:Nat):Ending:=.panicked [{ v:=.iface 92 (.agg #[.int .i64 a,.int .i64 (er:Int)]),recovered:=false }]
theorem Blk.c7{w:World}{g:Nat}{t:TypeId}{a b c d e f h:Value}(H:Blk w g t #[a,b,c,d,e,f,h]) :
  (w.cell? ⟨g,0,none⟩=some a∧w.cell? ⟨g,1,none⟩=some b∧w.cell? ⟨g,2,none⟩=some c∧w.cell? ⟨g,3,none⟩=some d∧w.cell? ⟨g,4,none⟩=some e∧w.cell? ⟨g,5,none⟩=some f∧w.cell? ⟨g,6,none⟩=some h):=
 ⟨H.cell 0,H.cell 1,H.cell 2,H.cell 3,H.cell 4,H.cell 5,H.cell 6⟩
end Go.Proofs.YtdhoemlomojfaaaGreatDoor.Fl
