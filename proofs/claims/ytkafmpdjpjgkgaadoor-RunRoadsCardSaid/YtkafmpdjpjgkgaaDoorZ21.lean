/- DERIVED. LkSpec, LkStB, LkPa in one text. By an AI agent. -/
import Derived.Test.YtkafmpdjpjgkgaaDoorZ20
import Derived.Laws.StructEq
import Derived.Deep.RegionHeld3
import Derived.BigRegion
/- DERIVED. What an instruction leaks, plainly. By an AI agent. -/
namespace Go.Proofs.YtkafmpdjpjgkgaaDoor.Lk
open Go.ChangeShapes Go.WideShapes Go.ChangeAt Go.RowKit WMath Word Args Mm Co
set_option linter.unusedVariables false
set_option linter.unusedSimpArgs false
/-- A leak. -/
structure L where
  pc : BitVec 32
  h : Nat
  a : BitVec 32
  b : BitVec 32
  r : BitVec 32
  o : BitVec 32
  bus : BitVec 32
  ad : BitVec 32
  me : Bool
  rn : Bool
abbrev lC (l : L) : Array Value := #[u l.pc, .int .u16 (l.h : Int), u l.a, u l.b, u l.r, u l.o, u l.bus, u l.ad, .bool l.me, .bool l.rn]
abbrev lv (l : L) : Value := .agg (lC l)
def zL : L := ⟨0, 0, 0, 0, 0, 0, 0, 0, false, false⟩
/-- Its operands. -/
def opA (op D N M : Nat) (s : S) : BitVec 32 :=
  if op = 0 then 0#32 else if op < 4 then s.r D else if op < 7 then s.r M else if op < 11 ∨ op = 12 ∨ op = 14 then s.r N else if op = 11 ∨ op = 13 ∨ op = 15 then s.r D else 0#32
def opB (op D N M : Nat) (imm : BitVec 32) (s : S) : BitVec 32 :=
  if op < 7 ∨ op = 9 ∨ op = 10 then imm else if op = 7 ∨ op = 8 ∨ op = 11 ∨ op = 14 then s.r M else if op = 12 then 4#32 * imm else 0#32
/-- What comes of one that sets no register. -/
def unS (op : Nat) (i : Int) (a b : BitVec 32) : BitVec 32 :=
  if op = 1 then a - b else if op = 13 ∨ op = 15 then a else if op = 11 then (if i = 8 then a &&& b else if i = 10 then a - b else if i = 11 then a + b else 0#32) else 0#32
def meB (op : Nat) : Bool := decide (12 ≤ op) && decide (op ≤ 16)
def adV (op N M : Nat) (imm : BitVec 32) (s : S) : BitVec 32 := if meB op then addrV op N M imm s else 0#32
def resR (op D N M : Nat) (i : Int) (s nx : S) : BitVec 32 := if ThRef.setsB op i then nx.r D else unS op i (opA op D N M s) (opB op D N M (BitVec.ofInt 32 i) s)
def oldR (op D : Nat) (i : Int) (s : S) : BitVec 32 := if ThRef.setsB op i then s.r D else 0#32
def lkV (op D N M : Nat) (i : Int) (h : Nat) (s nx : S) (bus : BitVec 32) : L :=
  ⟨s.pc, h, opA op D N M s, opB op D N M (BitVec.ofInt 32 i) s, resR op D N M i s nx, oldR op D i s, bus, adV op N M (BitVec.ofInt 32 i) s, meB op, meB op && (adV op N M (BitVec.ofInt 32 i) s == 1073741824#32)⟩
def lkOf (s : S) (m : St) (nx : S) : L :=
  lkV (Tp.takeF 21 0 (fetchV m (s.pc.toNat : Int)).1.toNat).1 (Tp.takeF 21 0 (fetchV m (s.pc.toNat : Int)).1.toNat).2.1.d.toNat (Tp.takeF 21 0 (fetchV m (s.pc.toNat : Int)).1.toNat).2.1.n.toNat (Tp.takeF 21 0 (fetchV m (s.pc.toNat : Int)).1.toNat).2.1.m.toNat (Tp.takeF 21 0 (fetchV m (s.pc.toNat : Int)).1.toNat).2.1.i (fetchV m (s.pc.toNat : Int)).1.toNat s nx (BitVec.ofInt 32 m.b)
/-- What leak.Step does: a state, a leak, whether it has stopped, an error, memory. -/
structure R5 where
  s : S
  l : L
  st : Bool
  er : Int
  m : St
def leakV (s : S) (m : St) : R5 := if (stepV s m).2.2.1 = 0 then ⟨(stepV s m).1, lkOf s m (stepV s m).1, (stepV s m).2.1, 0, (stepV s m).2.2.2⟩ else ⟨(stepV s m).1, zL, (stepV s m).2.1, (stepV s m).2.2.1, (stepV s m).2.2.2⟩
abbrev rV5 (r : R5) : Value := .tuple #[sv r.s, lv r.l, .bool r.st, .int .i64 r.er]
theorem bus_u {m : St} (h : Fit m) : Value.int .u32 m.b = u (BitVec.ofInt 32 m.b) := by
  have hb := h.b
  have : ((BitVec.ofInt 32 m.b).toNat : Int) = m.b := by rw [BitVec.toNat_ofInt]; omega
  show Value.int .u32 m.b = .int .u32 ((BitVec.ofInt 32 m.b).toNat : Int)
  rw [this]
theorem doS_C (k D N M : Nat) (i : Int) (s : S) (m : St) : (doS k D N M i s m).2.2.C = m.C := by
  unfold doS
  split
  · rfl
  · split
    · exact (loadS_len m _).1
    · split
      · exact (storeS_len m _ _).1
      · rfl
theorem stepV_C (s : S) (m : St) : (stepV s m).2.2.2.C = m.C := by
  unfold stepV
  split
  · split
    · split
      · rfl
      · split
        · exact doS_C _ _ _ _ _ _ _
        · exact doS_C _ _ _ _ _ _ _
    · rfl
  · rfl
theorem fetchV_C {m m' : St} (h : m'.C = m.C) (a : Int) : fetchV m' a = fetchV m a := by unfold fetchV; rw [h]
theorem lkOf_of {s : S} {m : St} {f k D N M : Nat} {i : Int} (hfe : fetchV m (s.pc.toNat : Int) = ((f : Int), 0)) (ht : Tp.takeF 21 0 f = (k, ⟨D, N, M, i⟩, 0)) (nx : S) : lkOf s m nx = lkV k D N M i f s nx (BitVec.ofInt 32 m.b) := by
  unfold lkOf
  rw [hfe]
  simp only [Int.toNat_natCast, ht]
/-- Of a step that is no error: its halfword, its instruction. -/
theorem step_ok (s : S) (m : St) (hf : Fit m) (h : (stepV s m).2.2.1 = 0) : ∃ (f k D N M : Nat) (i : Int), f < 65536 ∧ fetchV m (s.pc.toNat : Int) = ((f : Int), 0) ∧ Tp.takeF 21 0 f = (k, ⟨D, N, M, i⟩, 0) ∧ Wi k D N M i ∧ ∀ nx, lkOf s m nx = lkV k D N M i f s nx (BitVec.ofInt 32 m.b) := by
  have hb := fetch_in hf (s.pc.toNat : Int)
  unfold stepV at h
  rcases hfe : fetchV m (s.pc.toNat : Int) with ⟨hz, er⟩
  rw [hfe] at hb h
  simp only at hb h
  obtain ⟨f, rfl⟩ := Int.eq_ofNat_of_zero_le hb.1
  by_cases he : er = 0
  · subst he
    rw [if_pos rfl] at h
    simp only [Int.toNat_natCast] at h
    rcases ht : Tp.takeF 21 0 f with ⟨k, q, e2⟩
    rw [ht] at h
    simp only at h
    by_cases he2 : e2 = 0
    · subst he2
      obtain ⟨_, h2, _, h4⟩ := Tp.takeF_ok f 21 0 k q ht
      obtain ⟨D, N, M, hq, hw⟩ := wi_of k (by omega) q h2
      have hq2 : q = ⟨D, N, M, q.i⟩ := hq
      generalize q.i = i at *
      subst hq2
      exact ⟨f, k, D, N, M, i, by omega, rfl, ht, hw, fun nx => lkOf_of hfe ht nx⟩
    · rw [if_neg he2] at h
      exact absurd h (by simpa using he2)
  · rw [if_neg he] at h
    exact absurd h he
/-- A store to the port is a fault. -/
theorem store_port (m : St) (hf : Fit m) : storeE m 1073741824 = 50 := by
  unfold storeE
  rw [if_neg]
  have h1 := hf.wl
  unfold plcB far
  simp
  omega
end Go.Proofs.YtkafmpdjpjgkgaaDoor.Lk
/- DERIVED. The boxes of leak.Step. By an AI agent. -/
namespace Go.Proofs.YtkafmpdjpjgkgaaDoor.Lk
open Go.ChangeShapes Go.WideShapes Go.ChangeAt Go.RowKit WMath Word Args Mm Co
set_option linter.unusedVariables false
set_option linter.unusedSimpArgs false
/-- Behind Step. -/
def LkEnd (n0 : Nat) (h : Hd) (r : R5) (w : World) (e : Ending) (w' : World) : Prop := e = .returned (rV5 r) ∧ PP n0 h r.m w' ∧ Upd h.X w w'
/-- Step's own three blocks. -/
structure Ls (w : World) (s : S) (W : World) : Prop where
  b0 : Blk W w.heap.size 51 (sC s)
  b1 : Blk W (w.heap.size + 1) 51 (sC zS)
  b2 : Blk W (w.heap.size + 1 + 1) 39 (lC zL)
theorem ls_new (w : World) (s : S) : Ls w s (((w.alloc (.cells (sC s) 51)).alloc (.cells (sC zS) 51)).alloc (.cells (lC zL) 39)) ∧ Below w.heap.size w (((w.alloc (.cells (sC s) 51)).alloc (.cells (sC zS) 51)).alloc (.cells (lC zL) 39)) := by
  have h0 := Blk.new w 51 (sC s)
  have h1 := Blk.new (w.alloc (.cells (sC s) 51)) 51 (sC zS)
  have h2 := Blk.new ((w.alloc (.cells (sC s) 51)).alloc (.cells (sC zS) 51)) 39 (lC zL)
  simp only [World.size_alloc] at h1 h2
  exact ⟨⟨(h0.alloc _).alloc _, h1.alloc _, h2⟩, (((Below.refl _ _).alloc (Nat.le_refl _) _).alloc (by simp) _).alloc (by simp; omega) _⟩
theorem Ls.below {w W W' : World} {s : S} (h : Ls w s W) (hb : Below W.heap.size W W') : Ls w s W' := ⟨h.b0.below hb h.b0.lt, h.b1.below hb h.b1.lt, h.b2.below hb h.b2.lt⟩
theorem Ls.drewN {w W : World} {s : S} (h : Ls w s W) (n : Nat) : Ls w s (W.drewN n) := ⟨h.b0, h.b1, h.b2⟩
theorem Ls.upd {X : Nat → Prop} {w W W' : World} {s : S} (h : Ls w s W) (hu : Upd X W W') (hx : ∀ k, X k → k < w.heap.size) : Ls w s W' :=
  ⟨h.b0.upd hu (fun q => by have := hx _ q; omega), h.b1.upd hu (fun q => by have := hx _ q; omega), h.b2.upd hu (fun q => by have := hx _ q; omega)⟩
theorem Blk.cells10 {w : World} {g : Nat} {t : TypeId} {l : L} (h : Blk w g t (lC l)) :
    w.cell? ⟨g, 0, none⟩ = some (u l.pc) ∧ w.cell? ⟨g, 1, none⟩ = some (.int .u16 (l.h : Int)) ∧ w.cell? ⟨g, 2, none⟩ = some (u l.a) ∧ w.cell? ⟨g, 3, none⟩ = some (u l.b) ∧ w.cell? ⟨g, 4, none⟩ = some (u l.r) ∧ w.cell? ⟨g, 5, none⟩ = some (u l.o) ∧ w.cell? ⟨g, 6, none⟩ = some (u l.bus) ∧ w.cell? ⟨g, 7, none⟩ = some (u l.ad) ∧ w.cell? ⟨g, 8, none⟩ = some (.bool l.me) ∧ w.cell? ⟨g, 9, none⟩ = some (.bool l.rn) :=
  ⟨h.cell 0, h.cell 1, h.cell 2, h.cell 3, h.cell 4, h.cell 5, h.cell 6, h.cell 7, h.cell 8, h.cell 9⟩
theorem Blk.frozen10 {w : World} {g : Nat} {t : TypeId} {cs : Array Value} (h : Blk w g t cs) :
    w.frozen? ⟨g, 0, none⟩ = false ∧ w.frozen? ⟨g, 1, none⟩ = false ∧ w.frozen? ⟨g, 2, none⟩ = false ∧ w.frozen? ⟨g, 3, none⟩ = false ∧ w.frozen? ⟨g, 4, none⟩ = false ∧ w.frozen? ⟨g, 5, none⟩ = false ∧ w.frozen? ⟨g, 6, none⟩ = false ∧ w.frozen? ⟨g, 7, none⟩ = false ∧ w.frozen? ⟨g, 8, none⟩ = false ∧ w.frozen? ⟨g, 9, none⟩ = false :=
  ⟨h.frozen 0, h.frozen 1, h.frozen 2, h.frozen 3, h.frozen 4, h.frozen 5, h.frozen 6, h.frozen 7, h.frozen 8, h.frozen 9⟩
abbrev put10 (w : World) (g : Nat) (l : L) : World :=
  (((((((((w.setCell ⟨g, 0, none⟩ (u l.pc)).setCell ⟨g, 1, none⟩ (.int .u16 (l.h : Int))).setCell ⟨g, 2, none⟩ (u l.a)).setCell ⟨g, 3, none⟩ (u l.b)).setCell ⟨g, 4, none⟩ (u l.r)).setCell ⟨g, 5, none⟩ (u l.o)).setCell ⟨g, 6, none⟩ (u l.bus)).setCell ⟨g, 7, none⟩ (u l.ad)).setCell ⟨g, 8, none⟩ (.bool l.me)).setCell ⟨g, 9, none⟩ (.bool l.rn)
theorem blk10 {w : World} {g : Nat} {t : TypeId} {l0 : L} (h : Blk w g t (lC l0)) (l : L) : Blk (put10 w g l) g t (lC l) ∧ Upd (· = g) w (put10 w g l) := by
  have h0 := blk_one (cs' := #[u l.pc, .int .u16 (l0.h : Int), u l0.a, u l0.b, u l0.r, u l0.o, u l0.bus, u l0.ad, .bool l0.me, .bool l0.rn]) h 0 (u l.pc) rfl
  have h1 := blk_one (cs' := #[u l.pc, .int .u16 (l.h : Int), u l0.a, u l0.b, u l0.r, u l0.o, u l0.bus, u l0.ad, .bool l0.me, .bool l0.rn]) h0 1 (.int .u16 (l.h : Int)) rfl
  have h2 := blk_one (cs' := #[u l.pc, .int .u16 (l.h : Int), u l.a, u l0.b, u l0.r, u l0.o, u l0.bus, u l0.ad, .bool l0.me, .bool l0.rn]) h1 2 (u l.a) rfl
  have h3 := blk_one (cs' := #[u l.pc, .int .u16 (l.h : Int), u l.a, u l.b, u l0.r, u l0.o, u l0.bus, u l0.ad, .bool l0.me, .bool l0.rn]) h2 3 (u l.b) rfl
  have h4 := blk_one (cs' := #[u l.pc, .int .u16 (l.h : Int), u l.a, u l.b, u l.r, u l0.o, u l0.bus, u l0.ad, .bool l0.me, .bool l0.rn]) h3 4 (u l.r) rfl
  have h5 := blk_one (cs' := #[u l.pc, .int .u16 (l.h : Int), u l.a, u l.b, u l.r, u l.o, u l0.bus, u l0.ad, .bool l0.me, .bool l0.rn]) h4 5 (u l.o) rfl
  have h6 := blk_one (cs' := #[u l.pc, .int .u16 (l.h : Int), u l.a, u l.b, u l.r, u l.o, u l.bus, u l0.ad, .bool l0.me, .bool l0.rn]) h5 6 (u l.bus) rfl
  have h7 := blk_one (cs' := #[u l.pc, .int .u16 (l.h : Int), u l.a, u l.b, u l.r, u l.o, u l.bus, u l.ad, .bool l0.me, .bool l0.rn]) h6 7 (u l.ad) rfl
  have h8 := blk_one (cs' := #[u l.pc, .int .u16 (l.h : Int), u l.a, u l.b, u l.r, u l.o, u l.bus, u l.ad, .bool l.me, .bool l0.rn]) h7 8 (.bool l.me) rfl
  have h9 := blk_one (cs' := lC l) h8 9 (.bool l.rn) rfl
  exact ⟨h9, upd_set _ _ _ _ (upd_set _ _ _ _ (upd_set _ _ _ _ (upd_set _ _ _ _ (upd_set _ _ _ _ (upd_set _ _ _ _ (upd_set _ _ _ _ (upd_set _ _ _ _ (upd_set _ _ _ _ (upd_set _ _ _ _ (Upd.refl _ w))))))))))⟩
end Go.Proofs.YtkafmpdjpjgkgaaDoor.Lk
/- DERIVED. Parts of a leak: Values, Same, Control; a leak is the same as itself. By an AI agent. -/
namespace Go.Proofs.YtkafmpdjpjgkgaaDoor.Lk
open Go.ChangeShapes Go.WideShapes Go.ChangeAt Go.RowKit WMath Word Args Co
set_option linter.unusedVariables false
set_option linter.unusedSimpArgs false
/-- Of the same road. -/
def sameB (a b : L) : Bool := ((a.pc.toNat : Int) == (b.pc.toNat : Int)) && (((a.h : Int) == (b.h : Int)) && (((a.ad.toNat : Int) == (b.ad.toNat : Int)) && ((a.me == b.me) && (a.rn == b.rn))))
theorem same_self (a : L) : sameB a a = true := by simp [sameB]
set_option maxRecDepth 100000 in
set_option maxHeartbeats 4000000 in
theorem same (x y : L) (w : World) : Calls Tryd.prog 23 #[lv x, lv y] w fun e w' => e = .returned (.bool (sameB x y)) ∧ Below w.heap.size w w' := by
  have hs : sameB x y = _ := rfl
  conv at hs => rhs; unfold sameB
  obtain ⟨pc, h, a, b, r, o, bus, ad, me, rn⟩ := x
  obtain ⟨pc', h', a', b', r', o', bus', ad', me', rn'⟩ := y
  simp only at hs
  generalize e1 : ((pc.toNat : Int) == (pc'.toNat : Int)) = x1 at *
  generalize e2 : ((h : Int) == (h' : Int)) = x2 at *
  generalize e3 : ((ad.toNat : Int) == (ad'.toNat : Int)) = x3 at *
  generalize e4 : (me == me') = x4 at *
  generalize e5 : (rn == rn') = x5 at *
  have HS := Lib.hid hs
  clear hs
  cases x1
  · go_enter Tryd.func23, Tryd.ntmps23
    go_wp2_with fail
    go_ret
    exact ⟨by rw [HS.out]; rfl, (by repeat (first | exact Below.refl _ _ | (with_reducible refine Below.alloc ?_ (by simp) _)))⟩
  cases x2
  · go_enter Tryd.func23, Tryd.ntmps23
    go_wp2_with fail
    go_ret
    exact ⟨by rw [HS.out]; rfl, (by repeat (first | exact Below.refl _ _ | (with_reducible refine Below.alloc ?_ (by simp) _)))⟩
  cases x3
  · go_enter Tryd.func23, Tryd.ntmps23
    go_wp2_with fail
    go_ret
    exact ⟨by rw [HS.out]; rfl, (by repeat (first | exact Below.refl _ _ | (with_reducible refine Below.alloc ?_ (by simp) _)))⟩
  cases x4
  · go_enter Tryd.func23, Tryd.ntmps23
    go_wp2_with fail
    go_ret
    exact ⟨by rw [HS.out]; rfl, (by repeat (first | exact Below.refl _ _ | (with_reducible refine Below.alloc ?_ (by simp) _)))⟩
  cases x5
  · go_enter Tryd.func23, Tryd.ntmps23
    go_wp2_with fail
    go_ret
    exact ⟨by rw [HS.out]; rfl, (by repeat (first | exact Below.refl _ _ | (with_reducible refine Below.alloc ?_ (by simp) _)))⟩
  · go_enter Tryd.func23, Tryd.ntmps23
    go_wp2_with fail
    go_ret
    exact ⟨by rw [HS.out]; rfl, (by repeat (first | exact Below.refl _ _ | (with_reducible refine Below.alloc ?_ (by simp) _)))⟩
set_option maxRecDepth 100000 in
set_option maxHeartbeats 4000000 in
theorem control (x y : L) (w : World) : Calls Tryd.prog 24 #[lv x, lv y] w fun e w' => e = .returned (.bool (sameB x y)) ∧ Below w.heap.size w w' := by
  have hs : sameB x y = _ := rfl
  conv at hs => rhs; unfold sameB
  obtain ⟨pc, h, a, b, r, o, bus, ad, me, rn⟩ := x
  obtain ⟨pc', h', a', b', r', o', bus', ad', me', rn'⟩ := y
  simp only at hs
  generalize e1 : ((pc.toNat : Int) == (pc'.toNat : Int)) = x1 at *
  generalize e2 : ((h : Int) == (h' : Int)) = x2 at *
  generalize e3 : ((ad.toNat : Int) == (ad'.toNat : Int)) = x3 at *
  generalize e4 : (me == me') = x4 at *
  generalize e5 : (rn == rn') = x5 at *
  have HS := Lib.hid hs
  clear hs
  cases x1
  · go_enter Tryd.func24, Tryd.ntmps24
    go_wp2_with fail
    go_ret
    exact ⟨by rw [HS.out]; rfl, (by repeat (first | exact Below.refl _ _ | (with_reducible refine Below.alloc ?_ (by simp) _)))⟩
  cases x2
  · go_enter Tryd.func24, Tryd.ntmps24
    go_wp2_with fail
    go_ret
    exact ⟨by rw [HS.out]; rfl, (by repeat (first | exact Below.refl _ _ | (with_reducible refine Below.alloc ?_ (by simp) _)))⟩
  cases x3
  · go_enter Tryd.func24, Tryd.ntmps24
    go_wp2_with fail
    go_ret
    exact ⟨by rw [HS.out]; rfl, (by repeat (first | exact Below.refl _ _ | (with_reducible refine Below.alloc ?_ (by simp) _)))⟩
  cases x4
  · go_enter Tryd.func24, Tryd.ntmps24
    go_wp2_with fail
    go_ret
    exact ⟨by rw [HS.out]; rfl, (by repeat (first | exact Below.refl _ _ | (with_reducible refine Below.alloc ?_ (by simp) _)))⟩
  cases x5
  · go_enter Tryd.func24, Tryd.ntmps24
    go_wp2_with fail
    go_ret
    exact ⟨by rw [HS.out]; rfl, (by repeat (first | exact Below.refl _ _ | (with_reducible refine Below.alloc ?_ (by simp) _)))⟩
  · go_enter Tryd.func24, Tryd.ntmps24
    go_wp2_with fail
    go_ret
    exact ⟨by rw [HS.out]; rfl, (by repeat (first | exact Below.refl _ _ | (with_reducible refine Below.alloc ?_ (by simp) _)))⟩
theorem eq_leak (l : L) (w : World) : (Op.equalIn 10000 39 (lv l) (lv l)).run Tryd.prog w = .ok true w := by
  have h0 : Tryd.prog.stoodInHeld 39 = false := by kernel_rfl
  have h2 : Tryd.prog.underlying 36 = some (.int .u32) := by kernel_rfl
  have h3 : Tryd.prog.underlying 37 = some (.int .u16) := by kernel_rfl
  have h4 : Tryd.prog.underlying 4 = some .bool := by kernel_rfl
  have h5 : ∀ w : World, (isAgg 36).run Tryd.prog w = .ok false w := fun w => by kernel_rfl
  have h6 : ∀ w : World, (isAgg 4).run Tryd.prog w = .ok false w := fun w => by kernel_rfl
  have h7 : ∀ w : World, (isAgg 37).run Tryd.prog w = .ok false w := fun w => by kernel_rfl
  rw [run_equalIn_struct w 9999 39 _ _ (by kernel_rfl) h0]
  have h10 : ∀ (w : World) (a : Int), (Op.equalIn 9999 36 (.int .u32 a) (.int .u32 a)).run Tryd.prog w = .ok true w := fun w a => by
    rw [run_equalIn_int w 9998 _ _ _ _ _ h2]; simp
  have h12 : ∀ (w : World) (a : Int), (Op.equalIn 9999 37 (.int .u16 a) (.int .u16 a)).run Tryd.prog w = .ok true w := fun w a => by
    rw [run_equalIn_int w 9998 _ _ _ _ _ h3]; simp
  have h11 : ∀ (w : World) (a : Bool), (Op.equalIn 9999 4 (.bool a) (.bool a)).run Tryd.prog w = .ok true w := fun w a => by
    rw [run_equalIn_bool' w 9998 _ _ _ h4]; simp
  simp only [Program.fieldsOf, Tryd.underlying39]
  simp [Op.eqFields, part, h5, h6, h7, h10, h11, h12]
end Go.Proofs.YtkafmpdjpjgkgaaDoor.Lk
