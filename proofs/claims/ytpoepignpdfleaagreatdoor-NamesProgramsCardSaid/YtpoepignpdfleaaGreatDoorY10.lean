/- DERIVED. NmQb. By an AI agent. -/
import Derived.Test.YtpoepignpdfleaaGreatDoorY01
import Derived.Test.YtpoepignpdfleaaGreatDoorY06
import Derived.Test.YtpoepignpdfleaaGreatDoorY09
set_option maxRecDepth 100000
set_option maxHeartbeats 4000000
namespace Go.Proofs.YtpoepignpdfleaaGreatDoor.Nm
open Go Go.ChangeShapes Go.WideShapes Go.ChangeAt Go.RowKit Lx Args Pa Sh
set_option linter.unusedVariables false
set_option linter.unusedSimpArgs false
def StL(w:World)(g:Nat)(v:Value)(l:List Bs):Prop:=∃ A c,v = .slice A l.length c∧Lies w A (l.map strV)∧l.length≤maxLen∧∀ b o,A=some ⟨b,o,none⟩→l≠[]→b≠g
abbrev intV(n:Nat):Value:=.int .i64 (n:Int)
def InL(w:World)(g:Nat)(v:Value)(l:List Nat):Prop:=∃ A c,v = .slice A l.length c∧Lies w A (l.map intV)∧l.length≤maxLen∧∀ b o,A=some ⟨b,o,none⟩→l≠[]→b≠g
theorem StL.upd{w w':World}{g:Nat}{v:Value}{l:List Bs}(h:StL w g v l)(hu:Upd (fun b=>b=g) w w'):StL w' g v l:=by
 obtain ⟨A,c,h1,h2,h3,h4⟩:=h
 refine ⟨A,c,h1,hu.lies h2 fun b o e hl=>h4 b o e fun e2=>?_,h3,h4⟩
 rw [e2] at hl;simp at hl
theorem InL.upd{w w':World}{g:Nat}{v:Value}{l:List Nat}(h:InL w g v l)(hu:Upd (fun b=>b=g) w w'):InL w' g v l:=by
 obtain ⟨A,c,h1,h2,h3,h4⟩:=h
 refine ⟨A,c,h1,hu.lies h2 fun b o e hl=>h4 b o e fun e2=>?_,h3,h4⟩
 rw [e2] at hl;simp at hl
structure EV(w:World)(g:Nat)(v0 v1 v2 v3 v4 v7 v8 v9:Value)(d:RS)(bad:Option Int):Prop where
 blk:∃ ba,Blk w g 82 #[v0,v1,v2,v3,v4,.int .i64 ba,.bool bad.isSome,v7,v8,v9]∧∀ a,bad=some a→ba=a
 inn:StL w g v0 d.inn
 var:StL w g v1 d.var
 loo:StL w g v2 d.loo
 fn:StL w g v3 d.fn
 many:InL w g v4 d.many
 len:d.many.length=d.fn.length
section
variable {w w' : World} {g : Nat} {v0 v1 v2 v3 v4 v7 v8 v9 : Value} {d : RS} {bad : Option Int}
theorem EV.lt(h:EV w g v0 v1 v2 v3 v4 v7 v8 v9 d bad):g < w.heap.size:=by obtain ⟨_,h,_⟩:=h.blk;exact h.lt
theorem EV.below(h:EV w g v0 v1 v2 v3 v4 v7 v8 v9 d bad)(hb:Below w.heap.size w w'):EV w' g v0 v1 v2 v3 v4 v7 v8 v9 d bad:=by
 obtain ⟨⟨ba,h1,h2⟩,h3,h4,h5,h6,h7,h8⟩:=h
 have hu:Upd (fun b=>b=g) w w':=Upd.of_below hb _
 exact ⟨⟨ba,h1.below hb h1.lt,h2⟩,h3.upd hu,h4.upd hu,h5.upd hu,h6.upd hu,h7.upd hu,h8⟩
theorem EV.c10{x5 x6:Value}(h:Blk w g 82 #[v0,v1,v2,v3,v4,x5,x6,v7,v8,v9]):(w.cell? ⟨g,0,none⟩=some v0∧w.cell? ⟨g,1,none⟩=some v1∧w.cell? ⟨g,2,none⟩=some v2∧w.cell? ⟨g,3,none⟩=some v3∧w.cell? ⟨g,4,none⟩=some v4∧w.cell? ⟨g,5,none⟩=some x5∧w.cell? ⟨g,6,none⟩=some x6∧w.cell? ⟨g,7,none⟩=some v7∧w.cell? ⟨g,8,none⟩=some v8∧w.cell? ⟨g,9,none⟩=some v9) ∧
  w.frozen? ⟨g,5,none⟩=false∧w.frozen? ⟨g,6,none⟩=false:=
 ⟨⟨h.cell 0,h.cell 1,h.cell 2,h.cell 3,h.cell 4,h.cell 5,h.cell 6,h.cell 7,h.cell 8,h.cell 9⟩,h.frozen 5,h.frozen 6⟩
end
def ExR(w:World)(g:Nat)(v0 v1 v2 v3 v4 v7 v8 v9:Value)(d:RS)(bad:Option Int)(e:Ending)(w':World):Prop:=e = .returned (.tuple #[])∧EV w' g v0 v1 v2 v3 v4 v7 v8 v9 d bad∧Upd (fun b=>b=g) w w'
theorem bad_(w:World)(g:Nat)(v0 v1 v2 v3 v4 v7 v8 v9:Value)(d:RS)(bad:Option Int)(q:Bool)(k a:Int)(s:Bs)(n:Nat)(A:Option Addr)(la cA:Nat)(B:Option Addr)(lb cB:Nat)(h:EV w g v0 v1 v2 v3 v4 v7 v8 v9 d bad) :
  Calls Tryz.prog 55 #[.pointer (some ⟨g,0,none⟩),.bool q,nzA k a s n A la cA B lb cB] w (ExR w g v0 v1 v2 v3 v4 v7 v8 v9 d (orB bad q a)):=by
 obtain ⟨wn,hwn,hbn,hXn,hsn⟩:=a_box w (nB k a s n A la cA B lb cB)
 have hg0:=h.lt
 have hE:=h.below hbn
 have HE:=Hi hE;have HW:=Hi hwn;have HBN:=Hi hbn;have HXN:=Hi hXn
 obtain ⟨ba,hblk,hba⟩:=hE.blk
 obtain ⟨⟨c0,c1,c2,c3,c4,c5,c6,c7,c8,c9⟩,f5,f6⟩:=EV.c10 hblk
 have HBLK:=Hi hblk
 have hlt:=hblk.lt
 have HEND0:=Hi (show ExR w g v0 v1 v2 v3 v4 v7 v8 v9 d bad (.returned (.tuple #[])) wn from ⟨rfl,hE,Upd.of_below hbn _⟩)
 cases q with
 | false=>
  have h0:orB bad false a=bad:=by cases bad <;> rfl
  rw [h0]
  clear h hE hwn hbn hXn hblk hba hsn
  go_enter Tryz.func55,Tryz.ntmps55
  go_upto_region 1 with fail
  rw [HW.out]
  go_wp2_with fail
  first | go_end0 | skip
  all_goals first | exact HEND0.out | exact bodyPost_ret (results_none rfl _ _ _) rfl HEND0.out
 | true=>
  cases bad with
  | some a1=>
   clear h hE hwn hbn hXn hblk hba hsn
   go_enter Tryz.func55,Tryz.ntmps55
   go_upto_region 1 with fail
   rw [HW.out]
   go_wp2_with fail
   first | go_end0 | skip
   all_goals first | exact HEND0.out | exact bodyPost_ret (results_none rfl _ _ _) rfl HEND0.out
  | none=>
   have hdr:Below wn.heap.size wn wn.drew:=Below.drew (Below.refl _ _)
   obtain ⟨wz,hwd⟩:∃ v,wn.drew=v:=⟨_,rfl⟩
   rw [hwd] at hdr
   have HEz:=Hi (hE.below hdr);have HBz:=Hi (hblk.below hdr hblk.lt)
   have hZ0:=hXn.below hdr hXn.lt
   have hUz:Upd (fun b=>b=g) w wz:=(Upd.of_below (hbn.trans (hdr.mono hbn.size)) _)
   have hne:¬ w.heap.size=g:=by omega
   have HUz:=Hi hUz
   clear h hE hwn hbn hXn hblk hba hsn hdr hUz
   go_enter Tryz.func55,Tryz.ntmps55
   go_upto_region 1 with fail
   rw [HW.out]
   go_wp2_with fail
   refine HT.wp_region (Z:=fun w'=>Blk w' w.heap.size 26 (nB k a s n A la cA B lb cB)) (S:=fun _=>True) (st:=[]) (by kernel_rfl) ?_
   rw [hwd]
   clear hwd
   refine HT.tk 0 rfl (by intro v hSw;have E_:=Blk.c6 hSw;clear hSw;go_simp;try with_reducible rfl) hZ0 HT.tr ?_
   refine HT.tk 1 rfl (by intro v hSw;have E_:=Blk.c6 hSw;clear hSw;go_simp;try with_reducible rfl) hZ0 HT.tr ?_
   refine HT.tk 2 rfl (by intro v hSw;have E_:=Blk.c6 hSw;clear hSw;go_simp;try with_reducible rfl) hZ0 HT.tr ?_
   refine HT.tk 3 rfl (by intro v hSw;have E_:=Blk.c6 hSw;clear hSw;go_simp;try with_reducible rfl) hZ0 HT.tr ?_
   refine HT.tk 4 rfl (by intro v hSw;have E_:=Blk.c6 hSw;clear hSw;go_simp;try with_reducible rfl) hZ0 HT.tr ?_
   refine HT.tk 5 rfl (by intro v hSw;have E_:=Blk.c6 hSw;clear hSw;go_simp;try with_reducible rfl) hZ0 HT.tr ?_
   clear c0 c1 c2 c3 c4 c5 c6 c7 c8 c9 f5 f6
   obtain ⟨⟨c0,c1,c2,c3,c4,c5,c6,c7,c8,c9⟩,f5,f6⟩:=EV.c10 HBz.out
   refine HT.one (i:=6) (by kernel_rfl) rfl (fun K hK=>?_)
   go_simp
   have hu1:Upd (fun b=>b=g) wz (wz.setCell ⟨g,6,none⟩ (.bool true)):=(Upd.refl (fun b=>b=g) wz).setCell (p:=⟨g,6,none⟩) (fun _=>rfl) _
   have hZ1:=hZ0.upd hu1 hne
   have hB1:=HBz.out.set 6 (.bool true)
   have HB1:=Hi (show Blk (wz.setCell ⟨g,6,none⟩ (.bool true)) g 82 #[v0,v1,v2,v3,v4,.int .i64 ba,.bool true,v7,v8,v9] from hB1)
   clear hB1
   (try dsimp only)
   refine hK.out _ _ hZ1 trivial ?_
   clear hK K
   (try simp only [HT.pS])
   refine HT.tk 7 rfl (by intro v hSw;have E_:=Blk.c6 hSw;clear hSw;go_simp;try with_reducible rfl) hZ1 HT.tr ?_
   refine HT.tk 8 rfl (by intro v hSw;have E_:=Blk.c6 hSw;clear hSw;go_simp;try with_reducible rfl) hZ1 HT.tr ?_
   clear c0 c1 c2 c3 c4 c5 c6 c7 c8 c9 f5 f6
   obtain ⟨⟨c0,c1,c2,c3,c4,c5,c6,c7,c8,c9⟩,f5,f6⟩:=EV.c10 HB1.out
   have hl1:=HB1.out.lt
   refine HT.one (i:=9) (by kernel_rfl) rfl (fun K hK=>?_)
   go_simp
   have hu2:Upd (fun b=>b=g) wz ((wz.setCell ⟨g,6,none⟩ (.bool true)).setCell ⟨g,5,none⟩ (.int .i64 a)):=hu1.setCell (p:=⟨g,5,none⟩) (fun _=>rfl) _
   have hZ2:=hZ0.upd hu2 hne
   refine hK.out _ _ hZ2 trivial ?_
   clear hK K
   (try simp only [HT.pS])
   refine HT.done (by kernel_rfl) ?_
   have hez:=HEz.out
   have HEND:=Hi (show ExR w g v0 v1 v2 v3 v4 v7 v8 v9 d (some a) (.returned (.tuple #[])) ((wz.setCell ⟨g,6,none⟩ (.bool true)).setCell ⟨g,5,none⟩ (.int .i64 a)) from
    ⟨rfl,⟨⟨a,HB1.out.set 5 (.int .i64 a),fun _ h=>by cases h;rfl⟩,hez.inn.upd hu2,hez.var.upd hu2,hez.loo.upd hu2,hez.fn.upd hu2,hez.many.upd hu2,hez.len⟩,HUz.out.trans hu2⟩)
   clear hu1 hu2 hZ0 hZ1 hZ2 hez c0 c1 c2 c3 c4 c5 c6 c7 c8 c9 f5 f6
   go_wp2_with fail
   first | go_end0 | skip
   all_goals first | exact HEND.out | exact bodyPost_ret (results_none rfl _ _ _) rfl HEND.out
theorem manyR_at:∀ (fs:List Bs) (ms:List Nat) (s:Bs) (i:Nat) (m:Nat),(∀ j,j < i→fs[j]?≠some s)→fs[i]?=some s→ms[i]?=some m→manyR fs ms s=(m:Int)
 | [],_,s,i,m,_,h,_=>by simp at h
 | f :: fs,[],s,i,m,_,_,h=>by simp at h
 | f :: fs,x :: ms,s,0,m,_,h,h'=>by
  have h1:f=s:=by simpa using h
  have h2:x=m:=by simpa using h'
  unfold manyR
  subst h1;subst h2
  simp
 | f :: fs,x :: ms,s,i+1,m,hj,h,h'=>by
  have h0:f≠s:=fun e=>hj 0 (by omega) (by simp [e])
  unfold manyR
  rw [if_neg (by simpa using h0)]
  exact manyR_at fs ms s i m (fun j hlt=>by have:=hj (j+1) (by omega);simpa using this) (by simpa using h) (by simpa using h')
theorem manyR_no:∀ (fs:List Bs) (ms:List Nat) (s:Bs),(∀ j,j < fs.length→fs[j]?≠some s)→manyR fs ms s = -1
 | [],ms,s,_=>by unfold manyR;rfl
 | f :: fs,[],s,_=>by unfold manyR;rfl
 | f :: fs,x :: ms,s,hj=>by
  have h0:f≠s:=fun e=>hj 0 (by simp) (by simp [e])
  unfold manyR
  rw [if_neg (by simpa using h0)]
  exact manyR_no fs ms s fun j hlt=>by have:=hj (j+1) (by simp;omega);simpa using this
theorem many_(w:World)(g:Nat)(v0 v1 v2 v3 v4 v7 v8 v9:Value)(d:RS)(bad:Option Int)(s:Bs)(h:EV w g v0 v1 v2 v3 v4 v7 v8 v9 d bad) :
  Calls Tryz.prog 67 #[.pointer (some ⟨g,0,none⟩),.string ⟨s.toArray⟩] w fun e w'=>e = .returned (.int .i64 (manyR d.fn d.many s))∧w=w':=by
 obtain ⟨ba,hblk,hba⟩:=h.blk
 obtain ⟨A,c,rfl,hL,hl,_⟩:=h.fn
 obtain ⟨A',c',rfl,hL',hl',_⟩:=h.many
 have hlen:=h.len
 obtain ⟨⟨c0,c1,c2,c3,c4,c5,c6,c7,c8,c9⟩,f5,f6⟩:=EV.c10 hblk
 have hlm:d.fn.length≤9223372036854775807:=hl
 have HL:=Hi hL;have HL':=Hi hL'
 obtain ⟨res,hres⟩:∃ res,manyR d.fn d.many s=res:=⟨_,rfl⟩
 rw [hres]
 have HRES:=Hi hres
 clear h hblk hba hL hL' hres hl hl'
 go_enter Tryz.func67,Tryz.ntmps67
 go_wp2_with fail
 go_loop [5] (fun vi=>∃ i:Nat,i≤d.fn.length∧vi = .int .i64 (i:Int)∧Hid (∀ j,j < i→d.fn[j]?≠some s)) (fun vi=>d.fn.length - (intOf vi).toNat)
 case atStart=>exact ⟨0,by omega,rfl,Hi fun j hj=>absurd hj (by omega)⟩
 case round=>
  obtain ⟨i,hi,rfl,HQ⟩:=hrel
  by_cases hlt:i < d.fn.length
  ·obtain ⟨t,ht⟩:∃ t,d.fn[i]?=some t:=⟨_,List.getElem?_eq_getElem hlt⟩
   obtain ⟨m,hm⟩:∃ m,d.many[i]?=some m:=⟨_,List.getElem?_eq_getElem (by omega)⟩
   have t2:(d.fn.map strV)[i]?=some (.string ⟨t.toArray⟩):=by rw [List.getElem?_map,ht];rfl
   have m2:(d.many.map intV)[i]?=some (.int .i64 (m:Int)):=by rw [List.getElem?_map,hm];rfl
   obtain ⟨b,o,rfl,_,hc⟩:=HL.out.at_ t2
   obtain ⟨b',o',rfl,_,hc'⟩:=HL'.out.at_ m2
   have e1:=hc _ _ t2
   have e2:=hc' _ _ m2
   have hlt':i < d.many.length:=by omega
   by_cases hts:t=s
   ·subst hts
    have HR:=Hi (show (m:Int)=res from by rw [←HRES.out];exact (manyR_at _ _ _ i m HQ.out ht hm).symm)
    clear hc hc' t2 m2 ht hm
    go_wp2_with fail
    go_ret
    exact ⟨(congrArg (fun b=>Ending.returned (Value.int .i64 b)) HR.out),rfl⟩
   ·have hb:(t==s)=false:=by simpa using hts
    have HN:=Hi (show ∀ j,j < i+1→d.fn[j]?≠some s from fun j hj=>by
     by_cases h:j < i
     ·exact HQ.out j h
     ·obtain rfl:j=i:=by omega
      rw [ht];intro e;exact hts (Option.some.inj e))
    clear hc hc' t2 m2 ht hm hts
    go_wp2_with fail
    go_round
    case rel=>exact ⟨i+1,by omega,by go_num,HN⟩
    case measure=>simp [intOf];omega
  ·have HR:=Hi (show (-1:Int)=res from by rw [←HRES.out];exact (manyR_no _ _ _ fun j hj=>HQ.out j (by omega)).symm)
   go_wp2_with fail
   go_ret
   exact ⟨(congrArg (fun b=>Ending.returned (Value.int .i64 b)) HR.out),rfl⟩
end Go.Proofs.YtpoepignpdfleaaGreatDoor.Nm
