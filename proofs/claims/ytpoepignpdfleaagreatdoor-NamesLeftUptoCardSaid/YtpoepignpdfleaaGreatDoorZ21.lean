/- DERIVED. PaSn, PaSo, PaNa, PaNb in one text. By an AI agent. -/
import Derived.Test.YtpoepignpdfleaaGreatDoorZ06
import Derived.Test.YtpoepignpdfleaaGreatDoorRows
import Derived.WalkKit
import Derived.RegionTactic
import Derived.ProofKit
import Derived.Deep.QuietTactic
import Derived.BigQuiet
import Derived.Outline
import Derived.Lib.Hide
import Derived.WalkLawsBesides
import Derived.WalkSpells
import Derived.Lib.Strings
import Derived.Test.YtpoepignpdfleaaGreatDoorZ17
/- DERIVED. Contracts of package parse's is, take, must, name. By an AI agent. -/
namespace Go.Proofs.YtpoepignpdfleaaGreatDoor.Pa
open Go Go.ChangeShapes Go.WideShapes Go.ChangeAt Go.RowKit Lx Args
set_option linter.unusedVariables false
set_option linter.unusedSimpArgs false
attribute [local go_sem] fTk0 fTk1 fTk2
set_option maxRecDepth 100000 in
theorem is_ (w : World) (bp d : Nat) (t : Tk) (r : List Tk) (b : Bs) (hp : PS w bp (t :: r) d) :
    Calls Tryz.prog 80 #[.pointer (some ⟨bp, 0, none⟩), .string ⟨b.toArray⟩] w fun e w' => e = .returned (.bool (t.s == b)) ∧ Below w.heap.size w w' := by
  have HN := Lib.hid (next w bp d t r hp)
  clear hp
  go_enter Tryz.func80, Tryz.ntmps80
  go_wp2_with fail
  refine HN.out.mono ?_
  rintro e w1 ⟨rfl, hb1⟩
  have HB1 := Lib.hid hb1
  clear hb1
  go_wp2_with fail
  go_ret
  exact ⟨rfl, HB1.out⟩
set_option maxRecDepth 100000 in
theorem take (w : World) (bp d : Nat) (t : Tk) (r : List Tk) (hp : PS w bp (t :: r) d) (hr : r ≠ []) :
    Calls Tryz.prog 62 #[.pointer (some ⟨bp, 0, none⟩)] w fun e w' => e = .returned (.agg #[.int .i64 (t.k : Int), .string ⟨t.s.toArray⟩, .int .i64 (t.at_ : Int)]) ∧ PS w' bp r d ∧ UB bp w w' := by
  obtain ⟨w0, hw0⟩ : ∃ w0, w.alloc (.cells #[.int .i64 0, .string ⟨#[]⟩, .int .i64 0] 76) = w0 := ⟨_, rfl⟩
  have hb0 : Below w.heap.size w w0 := by rw [← hw0]; exact (Below.refl _ _).alloc (Nat.le_refl _) _
  have hB : Blk w0 w.heap.size 76 #[.int .i64 0, .string ⟨#[]⟩, .int .i64 0] := by rw [← hw0]; exact Blk.new _ _ _
  have hlt := hp.lt
  have HN := Lib.hid (next w0 bp d t r (hp.below hb0))
  have HP := Lib.hid (hp.below hb0)
  have HB0 := Lib.hid hb0; have HB := Lib.hid hB; have HW := Lib.hid hw0
  clear hb0 hB hp hw0
  go_enter Tryz.func62, Tryz.ntmps62
  go_wp2_with fail
  rw [HW.out]
  refine HN.out.mono ?_
  rintro e w1 ⟨rfl, hb1⟩
  obtain ⟨b, o, c, hn, hc1, hc2, f0, f1, f2, f3, f4, f5, f6⟩ := (HP.out.below hb1).head
  have HP1 := Lib.hid (HP.out.below hb1)
  have hlt1 := (HP.out.below hb1).lt
  have hlt0 := HB.out.lt
  have h1 : Blk w1 w.heap.size 76 #[.int .i64 0, .string ⟨#[]⟩, .int .i64 0] := HB.out.below hb1 hlt0
  have HB1 := Lib.hid (HB0.out.trans (hb1.mono HB0.out.size))
  have H1 := Lib.hid h1
  have hrl : r.length ≠ 0 := fun h => hr (List.length_eq_zero_iff.1 h)
  have hne : w.heap.size ≠ bp := by omega
  have hlg : w.heap.size < w1.heap.size := h1.lt
  obtain ⟨e0, e1, e2, z0, z1, z2⟩ := Blk.c3 h1
  have HF0 := Lib.hid f0
  clear h1 hb1 hr f1 f3 f4 f5 f6
  go_wp2_with fail
  refine bodyPost_ret (resTk rfl rfl ((Blk.put3 (H1.out.far hne _) _ _ _).alloc _) rfl) rfl ⟨rfl, ?_, ?_⟩
  · exact (PS.take HP1.out HF0.out).far ((((((Upd.refl (fun b => bp < b) _).setCell (fun _ => hlt) _).setCell (fun _ => hlt) _).setCell (fun _ => hlt) _).alloc _)) (fun _ h => h)
  · have hg : ∀ q : Nat, w.heap.size < w.heap.size → q = bp := fun q h => absurd h (Nat.lt_irrefl _)
    exact ((((((below_UB (bp := bp) HB1.out).setCell (fun _ => rfl) _).setCell (hg _) _).setCell (hg _) _).setCell (hg _) _).alloc _)
/-- What is given up with, as it goes up. -/
abbrev panV (a er : Nat) : Ending := .panicked [{ v := .iface 88 (.agg #[.int .i64 (a : Int), .int .i64 (er : Int)]), recovered := false }]
set_option maxRecDepth 100000 in
theorem must_no (w : World) (bp d : Nat) (t : Tk) (r : List Tk) (b : Bs) (hp : PS w bp (t :: r) d) (hb : (t.s == b) = false) :
    Calls Tryz.prog 77 #[.pointer (some ⟨bp, 0, none⟩), .string ⟨b.toArray⟩] w fun e w' => e = panV t.at_ 100 ∧ UB bp w w' := by
  obtain ⟨w0, hw0⟩ : ∃ w0, w.alloc (.cells #[.int .i64 0, .string ⟨#[]⟩, .int .i64 0] 76) = w0 := ⟨_, rfl⟩
  have hb0 : Below w.heap.size w w0 := by rw [← hw0]; exact (Below.refl _ _).alloc (Nat.le_refl _) _
  have hI := is_ w0 bp d t r b (hp.below hb0)
  rw [hb] at hI
  have HI := Lib.hid hI
  have HP := Lib.hid (hp.below hb0)
  have HB0 := Lib.hid hb0; have HW := Lib.hid hw0
  clear hb0 hp hw0 hI hb
  go_enter Tryz.func77, Tryz.ntmps77
  go_wp2_with fail
  rw [HW.out]
  refine HI.out.mono ?_
  rintro e w1 ⟨rfl, hb1⟩
  have HH := Lib.hid (here w1 bp d t r 100 (HP.out.below hb1))
  have HB1 := Lib.hid (HB0.out.trans (hb1.mono HB0.out.size))
  clear hb1
  go_wp2_with fail
  refine HH.out.mono ?_
  rintro e w2 ⟨rfl, hb2⟩
  have HB2 := Lib.hid (HB1.out.trans (hb2.mono HB1.out.size))
  clear hb2
  go_wp2_with fail
  exact ⟨rfl, rfl, below_UB HB2.out⟩
end Go.Proofs.YtpoepignpdfleaaGreatDoor.Pa
/- DERIVED. Contracts of package parse's must, name, node, sign. By an AI agent. -/
namespace Go.Proofs.YtpoepignpdfleaaGreatDoor.Pa
open Go Go.ChangeShapes Go.WideShapes Go.ChangeAt Go.RowKit Lx Args
set_option linter.unusedVariables false
set_option linter.unusedSimpArgs false
attribute [local go_sem] fTk0 fTk1 fTk2
set_option maxRecDepth 100000 in
theorem must_yes (w : World) (bp d : Nat) (t : Tk) (r : List Tk) (b : Bs) (hp : PS w bp (t :: r) d) (hb : (t.s == b) = true) (hr : r ≠ []) :
    Calls Tryz.prog 77 #[.pointer (some ⟨bp, 0, none⟩), .string ⟨b.toArray⟩] w fun e w' => e = .returned (.agg #[.int .i64 (t.k : Int), .string ⟨t.s.toArray⟩, .int .i64 (t.at_ : Int)]) ∧ PS w' bp r d ∧ UB bp w w' := by
  obtain ⟨w0, hw0⟩ : ∃ w0, w.alloc (.cells #[.int .i64 0, .string ⟨#[]⟩, .int .i64 0] 76) = w0 := ⟨_, rfl⟩
  have hb0 : Below w.heap.size w w0 := by rw [← hw0]; exact (Below.refl _ _).alloc (Nat.le_refl _) _
  have hB : Blk w0 w.heap.size 76 #[.int .i64 0, .string ⟨#[]⟩, .int .i64 0] := by rw [← hw0]; exact Blk.new _ _ _
  have hlt := hp.lt
  have hI := is_ w0 bp d t r b (hp.below hb0)
  rw [hb] at hI
  have HI := Lib.hid hI
  have HP := Lib.hid (hp.below hb0)
  have HB0 := Lib.hid hb0; have HB := Lib.hid hB; have HW := Lib.hid hw0; have HR := Lib.hid hr
  clear hb0 hp hw0 hI hb hB hr
  go_enter Tryz.func77, Tryz.ntmps77
  go_wp2_with fail
  rw [HW.out]
  refine HI.out.mono ?_
  rintro e w1 ⟨rfl, hb1⟩
  have HT := Lib.hid (take w1 bp d t r (HP.out.below hb1) HR.out)
  have HB1 := Lib.hid (HB.out.below hb1 HB.out.lt)
  have HU1 := Lib.hid ((below_UB (bp := bp) HB0.out).trans (below_UB (bp := bp) hb1))
  clear hb1
  go_wp2_with fail
  refine HT.out.mono ?_
  rintro e w2 ⟨rfl, hp2, hu2⟩
  have h2 : Blk w2 w.heap.size 76 #[.int .i64 0, .string ⟨#[]⟩, .int .i64 0] := HB1.out.upd hu2 (by omega)
  obtain ⟨e0, e1, e2, z0, z1, z2⟩ := Blk.c3 h2
  have H2 := Lib.hid h2; have HP2 := Lib.hid hp2; have HU2 := Lib.hid (HU1.out.trans hu2)
  clear h2 hp2 hu2
  go_wp2_with fail
  refine bodyPost_ret (resTk rfl rfl (Blk.put3 H2.out _ _ _) rfl) rfl ⟨rfl, ?_, ?_⟩
  · exact HP2.out.far ((((Upd.refl (fun b => bp < b) _).setCell (fun _ => hlt) _).setCell (fun _ => hlt) _).setCell (fun _ => hlt) _) (fun _ h => h)
  · have hg : ∀ q : Nat, w.heap.size < w.heap.size → q = bp := fun q h => absurd h (Nat.lt_irrefl _)
    exact (((HU2.out.setCell (hg _) _).setCell (hg _) _).setCell (hg _) _)
set_option maxRecDepth 100000 in
theorem name_no (w : World) (bp d : Nat) (t : Tk) (r : List Tk) (hp : PS w bp (t :: r) d) (hk : t.k ≠ 1) :
    Calls Tryz.prog 78 #[.pointer (some ⟨bp, 0, none⟩)] w fun e w' => e = panV t.at_ 100 ∧ UB bp w w' := by
  have HN := Lib.hid (next w bp d t r hp)
  have HP := Lib.hid hp
  have hq : ((t.k : Int) != 1) = true := by simp; omega
  clear hp hk
  go_enter Tryz.func78, Tryz.ntmps78
  go_wp2_with fail
  refine HN.out.mono ?_
  rintro e w1 ⟨rfl, hb1⟩
  have HH := Lib.hid (here w1 bp d t r 100 (HP.out.below hb1))
  have HB1 := Lib.hid hb1
  clear hb1
  go_wp2_with fail
  refine HH.out.mono ?_
  rintro e w2 ⟨rfl, hb2⟩
  have HB2 := Lib.hid (HB1.out.trans (hb2.mono HB1.out.size))
  clear hb2
  go_wp2_with fail
  exact ⟨rfl, rfl, below_UB HB2.out⟩
set_option maxRecDepth 100000 in
theorem name_yes (w : World) (bp d : Nat) (t : Tk) (r : List Tk) (hp : PS w bp (t :: r) d) (hk : t.k = 1) (hr : r ≠ []) :
    Calls Tryz.prog 78 #[.pointer (some ⟨bp, 0, none⟩)] w fun e w' => e = .returned (.string ⟨t.s.toArray⟩) ∧ PS w' bp r d ∧ UB bp w w' := by
  have hn := next w bp d t r hp
  rw [hk] at hn
  have HN := Lib.hid hn
  have HP := Lib.hid hp; have HR := Lib.hid hr
  clear hp hk hn hr
  go_enter Tryz.func78, Tryz.ntmps78
  go_wp2_with fail
  refine HN.out.mono ?_
  rintro e w1 ⟨rfl, hb1⟩
  have HT := Lib.hid (take w1 bp d t r (HP.out.below hb1) HR.out)
  have HU1 := Lib.hid (below_UB (bp := bp) hb1)
  clear hb1
  go_wp2_with fail
  refine HT.out.mono ?_
  rintro e w2 ⟨rfl, hp2, hu2⟩
  have HP2 := Lib.hid hp2; have HU2 := Lib.hid (HU1.out.trans hu2)
  clear hp2 hu2
  go_wp2_with fail
  go_ret
  exact ⟨rfl, HP2.out, HU2.out⟩
set_option maxRecDepth 100000 in
theorem node (w : World) (k a : Nat) (s : Bs) (A : Option Addr) (la cA : Nat) :
    Calls Tryz.prog 43 #[.int .i64 (k : Int), .string ⟨s.toArray⟩, .int .i64 (a : Int), .slice A la cA] w fun e w' =>
      e = .returned (.agg #[.int .i64 (k : Int), .string ⟨s.toArray⟩, .int .u32 0, .int .i64 (a : Int), .slice A la cA, .slice none 0 0]) ∧ Below w.heap.size w w' := by
  go_enter Tryz.func43, Tryz.ntmps43
  go_wp2_with fail
  refine bodyPost_ret (resNd rfl rfl (Blk.new _ _ _) rfl) rfl ⟨rfl, ?_⟩
  exact (Below.refl _ _).alloc (Nat.le_refl _) _
set_option maxRecDepth 100000 in
theorem sign (w : World) (s : Bs) :
    Calls Tryz.prog 116 #[.string ⟨s.toArray⟩] w fun e w' => e = .returned (.tuple #[.int .i64 (kindT s : Int), .int .i64 (levT s : Int)]) ∧ w = w' := by
  by_cases h0 : s = [124]
  · subst h0
    go_enter Tryz.func116, Tryz.ntmps116
    go_wp2_with fail
    go_ret2
    exact ⟨rfl, rfl⟩
  by_cases h1 : s = [94]
  · subst h1
    go_enter Tryz.func116, Tryz.ntmps116
    go_wp2_with fail
    go_ret2
    exact ⟨rfl, rfl⟩
  by_cases h2 : s = [38]
  · subst h2
    go_enter Tryz.func116, Tryz.ntmps116
    go_wp2_with fail
    go_ret2
    exact ⟨rfl, rfl⟩
  by_cases h3 : s = [60, 60]
  · subst h3
    go_enter Tryz.func116, Tryz.ntmps116
    go_wp2_with fail
    go_ret2
    exact ⟨rfl, rfl⟩
  by_cases h4 : s = [62, 62]
  · subst h4
    go_enter Tryz.func116, Tryz.ntmps116
    go_wp2_with fail
    go_ret2
    exact ⟨rfl, rfl⟩
  by_cases h5 : s = [60, 60, 60]
  · subst h5
    go_enter Tryz.func116, Tryz.ntmps116
    go_wp2_with fail
    go_ret2
    exact ⟨rfl, rfl⟩
  by_cases h6 : s = [43]
  · subst h6
    go_enter Tryz.func116, Tryz.ntmps116
    go_wp2_with fail
    go_ret2
    exact ⟨rfl, rfl⟩
  by_cases h7 : s = [45]
  · subst h7
    go_enter Tryz.func116, Tryz.ntmps116
    go_wp2_with fail
    go_ret2
    exact ⟨rfl, rfl⟩
  have hz : levT s = 0 := by simp [levT, h0, h1, h2, h3, h4, h5, h6, h7]
  have hk : kindT s = 0 := by simp [kindT, hz]
  rw [hz, hk]
  have g0 : (s == [124]) = false := by simpa using h0
  have g1 : (s == [94]) = false := by simpa using h1
  have g2 : (s == [38]) = false := by simpa using h2
  have g3 : (s == [60, 60]) = false := by simpa using h3
  have g4 : (s == [62, 62]) = false := by simpa using h4
  have g5 : (s == [60, 60, 60]) = false := by simpa using h5
  have g6 : (s == [43]) = false := by simpa using h6
  have g7 : (s == [45]) = false := by simpa using h7
  clear hz hk
  go_enter Tryz.func116, Tryz.ntmps116
  go_wp2_with fail
  go_ret2
  exact ⟨rfl, rfl⟩
end Go.Proofs.YtpoepignpdfleaaGreatDoor.Pa
/- DERIVED. Contracts of package word's digit and Number. By an AI agent. -/
namespace Go.Proofs.YtpoepignpdfleaaGreatDoor.Num
open Go.ChangeShapes Go.WideShapes Go.ChangeAt Go.RowKit
set_option linter.unusedVariables false
/-- What a byte counts as a digit; 16, if nothing. -/
def dvN (c : Nat) : Nat := if 48 ≤ c ∧ c ≤ 57 then c - 48 else if 97 ≤ c ∧ c ≤ 102 then c - 87 else if 65 ≤ c ∧ c ≤ 70 then c - 55 else 16
theorem dvN_le (c : Nat) : dvN c ≤ 16 := by unfold dvN; split <;> (try split) <;> (try split) <;> omega
theorem digitC (c : Nat) (hc : c < 256) (w : World) : Calls Tryz.prog 139 #[.int .u8 c] w fun e w' => e = .returned (.int .u64 (dvN c : Nat)) ∧ w = w' := by
  by_cases h1 : 48 ≤ c ∧ c ≤ 57
  · have hd : dvN c = c - 48 := by simp [dvN, h1]
    obtain ⟨a, b⟩ := h1
    have HD := Lib.hid hd; clear hd
    go_enter Tryz.func139, Tryz.ntmps139
    go_wp2
    go_ret
    exact ⟨by rw [HD.out]; go_num, rfl⟩
  by_cases h2 : 97 ≤ c ∧ c ≤ 102
  · have hd : dvN c = c - 87 := by simp [dvN, h1, h2]
    obtain ⟨a, b⟩ := h2
    have HD := Lib.hid hd; clear hd h1
    have n1 : ¬ c ≤ 57 := by omega
    go_enter Tryz.func139, Tryz.ntmps139
    go_wp2
    go_ret
    exact ⟨by rw [HD.out]; go_num, rfl⟩
  by_cases h3 : 65 ≤ c ∧ c ≤ 70
  · have hd : dvN c = c - 55 := by simp [dvN, h1, h2, h3]
    obtain ⟨a, b⟩ := h3
    have HD := Lib.hid hd; clear hd h1 h2
    have n1 : ¬ c ≤ 57 := by omega
    have n2 : ¬ 97 ≤ c := by omega
    go_enter Tryz.func139, Tryz.ntmps139
    go_wp2
    go_ret
    exact ⟨by rw [HD.out]; go_num, rfl⟩
  have hd : dvN c = 16 := by simp [dvN, h1, h2, h3]
  have HD := Lib.hid hd; clear hd
  have hr : c < 48 ∨ (57 < c ∧ c < 65) ∨ (70 < c ∧ c < 97) ∨ 102 < c := by omega
  clear h1 h2 h3
  rcases hr with r | ⟨r1, r2⟩ | ⟨r1, r2⟩ | r
  all_goals
    go_enter Tryz.func139, Tryz.ntmps139
    go_wp2
    go_ret
    exact ⟨by rw [HD.out]; rfl, rfl⟩
def nrun (base : Nat) : List UInt8 → Nat → Option Nat
  | [], n => some n
  | c :: l, n => if dvN c.toNat < base then nrun base l (min (n * base + dvN c.toNat) 4294967296) else none
/-- The number that digits are, or why none: the number and the error. -/
def numR (base : Nat) (L : List UInt8) : Nat × Nat :=
  if L = [] then (0, 4) else match nrun base L 0 with
    | none => (0, 4)
    | some n => if n = 4294967296 then (0, 2) else (n, 0)
def resN (r : Nat × Nat) : Value := .tuple #[.int .u32 (r.1 : Nat), .int .i64 (r.2 : Nat)]
end Go.Proofs.YtpoepignpdfleaaGreatDoor.Num
/- DERIVED. The contract of package word's Number. By an AI agent. -/
namespace Go.Proofs.YtpoepignpdfleaaGreatDoor.Num
open Go.ChangeShapes Go.WideShapes Go.ChangeAt Go.RowKit
set_option linter.unusedVariables false
theorem nrun_step (base : Nat) (D : ByteArray) (k n : Nat) (hk : k < D.size) (hd : dvN (D[k].toNat) < base) :
    nrun base (D.data.toList.drop k) n = nrun base (D.data.toList.drop (k + 1)) (min (n * base + dvN (D[k].toNat)) 4294967296) := by
  rw [List.drop_eq_getElem_cons (by simpa using hk), nrun]
  exact if_pos hd
theorem nrun_none (base : Nat) (D : ByteArray) (k n : Nat) (hk : k < D.size) (hd : ¬ dvN (D[k].toNat) < base) : nrun base (D.data.toList.drop k) n = none := by
  rw [List.drop_eq_getElem_cons (by simpa using hk), nrun]
  exact if_neg hd
theorem numR_nil (base : Nat) (D : ByteArray) (h : D.size = 0) : numR base D.data.toList = (0, 4) := by
  have : D.data.toList.length = 0 := by simpa using h
  rw [List.length_eq_zero_iff.1 this]; rfl
theorem numR_none (base : Nat) (D : ByteArray) (h : D.size ≠ 0) (hr : nrun base D.data.toList 0 = none) : numR base D.data.toList = (0, 4) := by
  unfold numR
  rw [if_neg (by intro e; apply h; have := congrArg List.length e; simpa using this), hr]
theorem numR_some (base : Nat) (D : ByteArray) (n : Nat) (h : D.size ≠ 0) (hr : nrun base D.data.toList 0 = some n) : numR base D.data.toList = if n = 4294967296 then (0, 2) else (n, 0) := by
  unfold numR
  rw [if_neg (by intro e; apply h; have := congrArg List.length e; simpa using this), hr]
theorem empty_true (D : ByteArray) (h : D.size = 0) : D.toList.isEmpty = true := by
  rw [ByteArray.toList_eq]
  have : D.data.toList.length = 0 := by simpa using h
  rw [List.length_eq_zero_iff.1 this]; rfl
theorem empty_false (D : ByteArray) (h : ¬ D.size = 0) : D.toList.isEmpty = false := by
  rw [ByteArray.toList_eq]
  cases e : D.data.toList with
  | nil => exfalso; apply h; have := congrArg List.length e; simpa using this
  | cons => rfl
theorem nrun_end (base : Nat) (D : ByteArray) (n : Nat) : nrun base (D.data.toList.drop D.size) n = some n := by
  rw [List.drop_of_length_le (by simp)]; rfl
set_option maxHeartbeats 1600000 in
theorem numC (hex : Bool) (s D : ByteArray) (w : World) (hp : Lib.hasPrefix s.data.toList [48, 120] = hex) (hD : (⟨(Lib.trimPrefix s.data.toList [48, 120]).toArray⟩ : ByteArray) = D) (hsz : D.size ≤ maxLen) :
    Calls Tryz.prog 137 #[.string s] w fun e w' => e = .returned (resN (numR (if hex then 16 else 10) D.data.toList)) ∧ w = w' := by
  have hc := Tryz.strings_CutPrefix s ⟨#[48, 120]⟩ w
  rw [show (ByteArray.mk #[48, 120]).data.toList = [48, 120] from rfl, hp, hD] at hc
  have HC := Lib.hid hc
  unfold maxLen at hsz
  clear hc hp hD
  by_cases hnil : D.size = 0
  · have he := empty_true D hnil
    rw [numR_nil _ D hnil]
    clear hnil
    cases hex
    all_goals
      go_enter Tryz.func137, Tryz.ntmps137
      go_wp2_with fail
      refine HC.out.mono ?_; rintro e w' ⟨rfl, rfl⟩
      go_wp2
      go_ret2
      exact ⟨rfl, rfl⟩
  have hne := empty_false D hnil
  have HNE : Hid (D.size ≠ 0) := Lib.hid hnil
  cases hex
  all_goals
    simp only [Bool.false_eq_true, if_true, if_false]
    go_enter Tryz.func137, Tryz.ntmps137
    go_wp2_with fail
    refine HC.out.mono ?_; rintro e w' ⟨rfl, rfl⟩
    go_wp2
  · go_loop [7, 20] (fun vn vi => ∃ k n : Nat, k ≤ D.size ∧ vi = .int .i64 k ∧ vn = .int .u64 n ∧ n ≤ 4294967296 ∧ Hid (nrun 10 D.data.toList 0 = nrun 10 (D.data.toList.drop k) n)) (fun _ vi => D.size - (intOf vi).toNat)
    case atStart => exact ⟨0, 0, by omega, rfl, rfl, by omega, Lib.hid rfl⟩
    case round =>
      obtain ⟨k, n, hk, rfl, rfl, hn, HI⟩ := hrel
      clear hne hnil
      by_cases hlt : k < D.size
      · have hb : D[k].toNat < 256 := D[k].toNat_lt
        have hdc := digitC D[k].toNat hb
        have hdl := dvN_le D[k].toNat
        by_cases hd : dvN D[k].toNat < 10
        · have hst := nrun_step 10 D k n hlt hd
          generalize dvN D[k].toNat = d at hdc hdl hd hst
          have HS := Lib.hid hst; have HDC := Lib.hid hdc
          clear hst hdc
          go_wp2_with (go_at_call 139; refine (HDC.out _).mono ?_; rintro e w' ⟨rfl, rfl⟩)
          go_round
          case rel => exact ⟨k + 1, min (n * 10 + d) 4294967296, by omega, by go_num, by go_num, by omega, Lib.hid (by rw [HI.out, HS.out])⟩
          case measure => simp [intOf]; omega
        · have hst := nrun_none 10 D k n hlt hd
          rw [← HI.out] at hst
          have hfin := numR_none 10 D HNE.out hst
          generalize dvN D[k].toNat = d at hdc hdl hd
          have HF := Lib.hid hfin; have HDC := Lib.hid hdc
          clear hst hdc hfin
          go_wp2_with (go_at_call 139; refine (HDC.out _).mono ?_; rintro e w' ⟨rfl, rfl⟩)
          go_ret2
          exact ⟨by rw [HF.out]; rfl, rfl⟩
      · have : k = D.size := by omega
        subst this
        have hI := HI.out
        rw [nrun_end] at hI
        have hfin := numR_some 10 D n HNE.out hI
        clear hI HI
        by_cases hl : n < 4294967296
        · rw [if_neg (by omega)] at hfin
          have HF := Lib.hid hfin
          clear hfin
          go_wp2
          go_ret2
          exact ⟨by rw [HF.out]; rfl, rfl⟩
        · have : n = 4294967296 := by omega
          subst this
          rw [if_pos rfl] at hfin
          have HF := Lib.hid hfin
          clear hfin
          go_wp2
          go_ret2
          exact ⟨by rw [HF.out]; rfl, rfl⟩
  · go_loop [7, 20] (fun vn vi => ∃ k n : Nat, k ≤ D.size ∧ vi = .int .i64 k ∧ vn = .int .u64 n ∧ n ≤ 4294967296 ∧ Hid (nrun 16 D.data.toList 0 = nrun 16 (D.data.toList.drop k) n)) (fun _ vi => D.size - (intOf vi).toNat)
    case atStart => exact ⟨0, 0, by omega, rfl, rfl, by omega, Lib.hid rfl⟩
    case round =>
      obtain ⟨k, n, hk, rfl, rfl, hn, HI⟩ := hrel
      clear hne hnil
      by_cases hlt : k < D.size
      · have hb : D[k].toNat < 256 := D[k].toNat_lt
        have hdc := digitC D[k].toNat hb
        have hdl := dvN_le D[k].toNat
        by_cases hd : dvN D[k].toNat < 16
        · have hst := nrun_step 16 D k n hlt hd
          generalize dvN D[k].toNat = d at hdc hdl hd hst
          have HS := Lib.hid hst; have HDC := Lib.hid hdc
          clear hst hdc
          go_wp2_with (go_at_call 139; refine (HDC.out _).mono ?_; rintro e w' ⟨rfl, rfl⟩)
          go_round
          case rel => exact ⟨k + 1, min (n * 16 + d) 4294967296, by omega, by go_num, by go_num, by omega, Lib.hid (by rw [HI.out, HS.out])⟩
          case measure => simp [intOf]; omega
        · have hst := nrun_none 16 D k n hlt hd
          rw [← HI.out] at hst
          have hfin := numR_none 16 D HNE.out hst
          generalize dvN D[k].toNat = d at hdc hdl hd
          have HF := Lib.hid hfin; have HDC := Lib.hid hdc
          clear hst hdc hfin
          go_wp2_with (go_at_call 139; refine (HDC.out _).mono ?_; rintro e w' ⟨rfl, rfl⟩)
          go_ret2
          exact ⟨by rw [HF.out]; rfl, rfl⟩
      · have : k = D.size := by omega
        subst this
        have hI := HI.out
        rw [nrun_end] at hI
        have hfin := numR_some 16 D n HNE.out hI
        clear hI HI
        by_cases hl : n < 4294967296
        · rw [if_neg (by omega)] at hfin
          have HF := Lib.hid hfin
          clear hfin
          go_wp2
          go_ret2
          exact ⟨by rw [HF.out]; rfl, rfl⟩
        · have : n = 4294967296 := by omega
          subst this
          rw [if_pos rfl] at hfin
          have HF := Lib.hid hfin
          clear hfin
          go_wp2
          go_ret2
          exact ⟨by rw [HF.out]; rfl, rfl⟩
end Go.Proofs.YtpoepignpdfleaaGreatDoor.Num
