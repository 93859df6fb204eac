/- DERIVED. ShRs, ShRf in one text. By an AI agent. -/
import Derived.Test.YtokfmclbninkmaaGreatDoorZ13
import Derived.Test.YtokfmclbninkmaaGreatDoorZ14
/- DERIVED. The reference's texts of statements. By an AI agent. -/
namespace Go.Proofs.YtokfmclbninkmaaGreatDoor.Rt
open Go Go.ChangeShapes Go.WideShapes Go.ChangeAt Go.RowKit Lx Args Pa Sh Wr
set_option linter.unusedVariables false
set_option linter.unusedSimpArgs false
theorem a_box (w : World) (cs : Array Value) : ∃ w1, w.alloc (.cells cs 26) = w1 ∧ Below w.heap.size w w1 ∧ Blk w1 w.heap.size 26 cs := ⟨_, rfl, (Below.refl _ _).alloc (Nat.le_refl _) _, Blk.new _ _ _⟩
/-- The reference's stmt, of trees smaller than m. -/
def StR (m : Nat) : Prop := ∀ (z : Tz), SizeOf.sizeOf z < m → okz z → (stT dec z).length ≤ 1099511627776 → ∀ (w : World) (k a : Int) (s : Bs) (n : Nat) (A : Option Addr) (la cA : Nat) (B : Option Addr) (lb cB : Nat), TIz w z (nzC k a s n A la cA B lb cB) →
  Calls Tryz.prog 20 #[nzA k a s n A la cA B lb cB] w fun e w' => e = .returned (str (stT dec z)) ∧ Below w.heap.size w w'

set_option maxRecDepth 100000 in
set_option maxHeartbeats 2000000 in
theorem st6 (w : World) (a : Int) (s : Bs) (n : Nat) (A : Option Addr) (la cA : Nat) (B : Option Addr) (lb cB : Nat) (t : Bs) (ht : t.length ≤ 1099511627776) (HN : ∀ w1, Below w.heap.size w w1 → Calls Tryz.prog 38 #[.slice B lb cB] w1 fun e w' => e = .returned (str t) ∧ Below w1.heap.size w1 w') :
    Calls Tryz.prog 20 #[nzA 6 a s n A la cA B lb cB] w fun e w' => e = .returned (str ([115, 101, 99, 114, 101, 116, 32] ++ t ++ [59])) ∧ Below w.heap.size w w' := by
  obtain ⟨w1, hw1, hb1, hX1⟩ := a_box w (nB 6 a s n A la cA B lb cB)
  obtain ⟨⟨e0, e1, e2, e3, e4, e5⟩, z0, z1, z2, z3, z4, z5⟩ := Blk.c6 hX1
  have hxl := hX1.lt
  have HW := Lib.hid hw1; have HB1 := Lib.hid hb1
  have HNN := Lib.hid (HN w1 hb1)
  clear HN hw1 hb1 hX1
  have zz0 : ((⟨#[115, 101, 99, 114, 101, 116, 32]⟩ : ByteArray) ++ (⟨t.toArray⟩ : ByteArray)).size = 7 + t.length := by rw [ByteArray.size_append]; first | rfl | (simp [size_str]; done) | (simp [size_str]; omega)
  have qq0 : ¬ (9223372036854775807 < 7 + t.length) := by omega
  have zz1 : ((⟨#[115, 101, 99, 114, 101, 116, 32]⟩ : ByteArray) ++ (⟨t.toArray⟩ : ByteArray) ++ (⟨#[59]⟩ : ByteArray)).size = 7 + t.length + 1 := by rw [ByteArray.size_append, zz0]; first | rfl | (simp [size_str]; done) | (simp [size_str]; omega)
  have qq1 : ¬ (9223372036854775807 < 7 + t.length + 1) := by omega
  go_enter Tryz.func20, Tryz.ntmps20
  go_wp2_with fail
  rw [HW.out]
  refine (HNN.out).mono ?_
  rintro e w2 ⟨rfl, hb2⟩
  have HB2 := Lib.hid (HB1.out.trans (hb2.mono HB1.out.size))
  clear hb2
  go_wp2_with fail
  go_ret
  exact ⟨congrArg (fun x => Ending.returned (.string x)) (bs_eq (by simp only [ByteArray.data_append, Array.toList_append]; try simp)), HB2.out⟩
set_option maxRecDepth 100000 in
set_option maxHeartbeats 2000000 in
theorem st7 (w : World) (a : Int) (s : Bs) (n : Nat) (A : Option Addr) (la cA : Nat) (B : Option Addr) (lb cB : Nat) (t : Bs) (ht : t.length ≤ 1099511627776) (HN : ∀ w1, Below w.heap.size w w1 → Calls Tryz.prog 38 #[.slice B lb cB] w1 fun e w' => e = .returned (str t) ∧ Below w1.heap.size w1 w') :
    Calls Tryz.prog 20 #[nzA 7 a s n A la cA B lb cB] w fun e w' => e = .returned (str ([112, 117, 98, 108, 105, 99, 32] ++ t ++ [59])) ∧ Below w.heap.size w w' := by
  obtain ⟨w1, hw1, hb1, hX1⟩ := a_box w (nB 7 a s n A la cA B lb cB)
  obtain ⟨⟨e0, e1, e2, e3, e4, e5⟩, z0, z1, z2, z3, z4, z5⟩ := Blk.c6 hX1
  have hxl := hX1.lt
  have HW := Lib.hid hw1; have HB1 := Lib.hid hb1
  have HNN := Lib.hid (HN w1 hb1)
  clear HN hw1 hb1 hX1
  have zz0 : ((⟨#[112, 117, 98, 108, 105, 99, 32]⟩ : ByteArray) ++ (⟨t.toArray⟩ : ByteArray)).size = 7 + t.length := by rw [ByteArray.size_append]; first | rfl | (simp [size_str]; done) | (simp [size_str]; omega)
  have qq0 : ¬ (9223372036854775807 < 7 + t.length) := by omega
  have zz1 : ((⟨#[112, 117, 98, 108, 105, 99, 32]⟩ : ByteArray) ++ (⟨t.toArray⟩ : ByteArray) ++ (⟨#[59]⟩ : ByteArray)).size = 7 + t.length + 1 := by rw [ByteArray.size_append, zz0]; first | rfl | (simp [size_str]; done) | (simp [size_str]; omega)
  have qq1 : ¬ (9223372036854775807 < 7 + t.length + 1) := by omega
  go_enter Tryz.func20, Tryz.ntmps20
  go_wp2_with fail
  rw [HW.out]
  refine (HNN.out).mono ?_
  rintro e w2 ⟨rfl, hb2⟩
  have HB2 := Lib.hid (HB1.out.trans (hb2.mono HB1.out.size))
  clear hb2
  go_wp2_with fail
  go_ret
  exact ⟨congrArg (fun x => Ending.returned (.string x)) (bs_eq (by simp only [ByteArray.data_append, Array.toList_append]; try simp)), HB2.out⟩
set_option maxRecDepth 100000 in
set_option maxHeartbeats 2000000 in
theorem st8 (w : World) (a : Int) (s : Bs) (n : Nat) (A : Option Addr) (la cA : Nat) (B : Option Addr) (lb cB : Nat) (hs : s.length ≤ 1048576) (t : Bs) (ht : t.length ≤ 1099511627776) (HT : ∀ w1, Below w.heap.size w w1 → Calls Tryz.prog 39 #[.slice A la cA, .string ⟨#[]⟩, .bool false] w1 fun e w' => e = .returned (str t) ∧ Below w1.heap.size w1 w') :
    Calls Tryz.prog 20 #[nzA 8 a s n A la cA B lb cB] w fun e w' => e = .returned (str ([111, 117, 116, 32] ++ s ++ [32, 61, 32] ++ t ++ [59])) ∧ Below w.heap.size w w' := by
  obtain ⟨w1, hw1, hb1, hX1⟩ := a_box w (nB 8 a s n A la cA B lb cB)
  obtain ⟨⟨e0, e1, e2, e3, e4, e5⟩, z0, z1, z2, z3, z4, z5⟩ := Blk.c6 hX1
  have hxl := hX1.lt
  have HW := Lib.hid hw1; have HB1 := Lib.hid hb1
  have HNN := Lib.hid (HT w1 hb1)
  clear HT hw1 hb1 hX1
  have zz0 : ((⟨#[111, 117, 116, 32]⟩ : ByteArray) ++ (⟨s.toArray⟩ : ByteArray)).size = 4 + s.length := by rw [ByteArray.size_append]; first | rfl | (simp [size_str]; done) | (simp [size_str]; omega)
  have qq0 : ¬ (9223372036854775807 < 4 + s.length) := by omega
  have zz1 : ((⟨#[111, 117, 116, 32]⟩ : ByteArray) ++ (⟨s.toArray⟩ : ByteArray) ++ (⟨#[32, 61, 32]⟩ : ByteArray)).size = 4 + s.length + 3 := by rw [ByteArray.size_append, zz0]; first | rfl | (simp [size_str]; done) | (simp [size_str]; omega)
  have qq1 : ¬ (9223372036854775807 < 4 + s.length + 3) := by omega
  have zz2 : ((⟨#[111, 117, 116, 32]⟩ : ByteArray) ++ (⟨s.toArray⟩ : ByteArray) ++ (⟨#[32, 61, 32]⟩ : ByteArray) ++ (⟨t.toArray⟩ : ByteArray)).size = 4 + s.length + 3 + t.length := by rw [ByteArray.size_append, zz1]; first | rfl | (simp [size_str]; done) | (simp [size_str]; omega)
  have qq2 : ¬ (9223372036854775807 < 4 + s.length + 3 + t.length) := by omega
  have zz3 : ((⟨#[111, 117, 116, 32]⟩ : ByteArray) ++ (⟨s.toArray⟩ : ByteArray) ++ (⟨#[32, 61, 32]⟩ : ByteArray) ++ (⟨t.toArray⟩ : ByteArray) ++ (⟨#[59]⟩ : ByteArray)).size = 4 + s.length + 3 + t.length + 1 := by rw [ByteArray.size_append, zz2]; first | rfl | (simp [size_str]; done) | (simp [size_str]; omega)
  have qq3 : ¬ (9223372036854775807 < 4 + s.length + 3 + t.length + 1) := by omega
  go_enter Tryz.func20, Tryz.ntmps20
  go_wp2_with fail
  rw [HW.out]
  refine (HNN.out).mono ?_
  rintro e w2 ⟨rfl, hb2⟩
  have HB2 := Lib.hid (HB1.out.trans (hb2.mono HB1.out.size))
  clear hb2
  go_wp2_with fail
  go_ret
  exact ⟨congrArg (fun x => Ending.returned (.string x)) (bs_eq (by simp only [ByteArray.data_append, Array.toList_append]; try simp)), HB2.out⟩
set_option maxRecDepth 100000 in
set_option maxHeartbeats 2000000 in
theorem st9 (w : World) (a : Int) (s : Bs) (n : Nat) (A : Option Addr) (la cA : Nat) (B : Option Addr) (lb cB : Nat) (hs : s.length ≤ 1048576) (t : Bs) (ht : t.length ≤ 1099511627776) (HT : ∀ w1, Below w.heap.size w w1 → Calls Tryz.prog 39 #[.slice A la cA, .string ⟨#[]⟩, .bool false] w1 fun e w' => e = .returned (str t) ∧ Below w1.heap.size w1 w') :
    Calls Tryz.prog 20 #[nzA 9 a s n A la cA B lb cB] w fun e w' => e = .returned (str ([115, 104, 111, 119, 32] ++ s ++ [32, 61, 32] ++ t ++ [59])) ∧ Below w.heap.size w w' := by
  obtain ⟨w1, hw1, hb1, hX1⟩ := a_box w (nB 9 a s n A la cA B lb cB)
  obtain ⟨⟨e0, e1, e2, e3, e4, e5⟩, z0, z1, z2, z3, z4, z5⟩ := Blk.c6 hX1
  have hxl := hX1.lt
  have HW := Lib.hid hw1; have HB1 := Lib.hid hb1
  have HNN := Lib.hid (HT w1 hb1)
  clear HT hw1 hb1 hX1
  have zz0 : ((⟨#[115, 104, 111, 119, 32]⟩ : ByteArray) ++ (⟨s.toArray⟩ : ByteArray)).size = 5 + s.length := by rw [ByteArray.size_append]; first | rfl | (simp [size_str]; done) | (simp [size_str]; omega)
  have qq0 : ¬ (9223372036854775807 < 5 + s.length) := by omega
  have zz1 : ((⟨#[115, 104, 111, 119, 32]⟩ : ByteArray) ++ (⟨s.toArray⟩ : ByteArray) ++ (⟨#[32, 61, 32]⟩ : ByteArray)).size = 5 + s.length + 3 := by rw [ByteArray.size_append, zz0]; first | rfl | (simp [size_str]; done) | (simp [size_str]; omega)
  have qq1 : ¬ (9223372036854775807 < 5 + s.length + 3) := by omega
  have zz2 : ((⟨#[115, 104, 111, 119, 32]⟩ : ByteArray) ++ (⟨s.toArray⟩ : ByteArray) ++ (⟨#[32, 61, 32]⟩ : ByteArray) ++ (⟨t.toArray⟩ : ByteArray)).size = 5 + s.length + 3 + t.length := by rw [ByteArray.size_append, zz1]; first | rfl | (simp [size_str]; done) | (simp [size_str]; omega)
  have qq2 : ¬ (9223372036854775807 < 5 + s.length + 3 + t.length) := by omega
  have zz3 : ((⟨#[115, 104, 111, 119, 32]⟩ : ByteArray) ++ (⟨s.toArray⟩ : ByteArray) ++ (⟨#[32, 61, 32]⟩ : ByteArray) ++ (⟨t.toArray⟩ : ByteArray) ++ (⟨#[59]⟩ : ByteArray)).size = 5 + s.length + 3 + t.length + 1 := by rw [ByteArray.size_append, zz2]; first | rfl | (simp [size_str]; done) | (simp [size_str]; omega)
  have qq3 : ¬ (9223372036854775807 < 5 + s.length + 3 + t.length + 1) := by omega
  go_enter Tryz.func20, Tryz.ntmps20
  go_wp2_with fail
  rw [HW.out]
  refine (HNN.out).mono ?_
  rintro e w2 ⟨rfl, hb2⟩
  have HB2 := Lib.hid (HB1.out.trans (hb2.mono HB1.out.size))
  clear hb2
  go_wp2_with fail
  go_ret
  exact ⟨congrArg (fun x => Ending.returned (.string x)) (bs_eq (by simp only [ByteArray.data_append, Array.toList_append]; try simp)), HB2.out⟩
set_option maxRecDepth 100000 in
set_option maxHeartbeats 2000000 in
theorem st12 (w : World) (a : Int) (s : Bs) (n : Nat) (A : Option Addr) (la cA : Nat) (B : Option Addr) (lb cB : Nat) (hs : s.length ≤ 1048576) (t u : Bs) (ht : t.length ≤ 1099511627776) (hu : u.length ≤ 1099511627776) (HN : ∀ w1, Below w.heap.size w w1 → Calls Tryz.prog 38 #[.slice B lb cB] w1 fun e w' => e = .returned (str u) ∧ Below w1.heap.size w1 w') (HT : ∀ w1, Below w.heap.size w w1 → Calls Tryz.prog 39 #[.slice A la cA, .string ⟨#[]⟩, .bool false] w1 fun e w' => e = .returned (str t) ∧ Below w1.heap.size w1 w') :
    Calls Tryz.prog 20 #[nzA 12 a s n A la cA B lb cB] w fun e w' => e = .returned (str ([102, 110, 32] ++ s ++ [40] ++ u ++ [41] ++ [32, 61, 32] ++ t ++ [59])) ∧ Below w.heap.size w w' := by
  obtain ⟨w1, hw1, hb1, hX1⟩ := a_box w (nB 12 a s n A la cA B lb cB)
  obtain ⟨⟨e0, e1, e2, e3, e4, e5⟩, z0, z1, z2, z3, z4, z5⟩ := Blk.c6 hX1
  have hxl := hX1.lt
  have HW := Lib.hid hw1; have HB1 := Lib.hid hb1
  have HNN := Lib.hid (HN w1 hb1)
  have HTT := Lib.hid fun w2 (hb : Below w.heap.size w w2) => HT w2 hb
  have HX := Lib.hid hX1
  clear HN HT hw1 hb1 hX1
  have zz0 : ((⟨#[102, 110, 32]⟩ : ByteArray) ++ (⟨s.toArray⟩ : ByteArray)).size = 3 + s.length := by rw [ByteArray.size_append]; first | rfl | (simp [size_str]; done) | (simp [size_str]; omega)
  have qq0 : ¬ (9223372036854775807 < 3 + s.length) := by omega
  have zz1 : ((⟨#[102, 110, 32]⟩ : ByteArray) ++ (⟨s.toArray⟩ : ByteArray) ++ (⟨#[40]⟩ : ByteArray)).size = 3 + s.length + 1 := by rw [ByteArray.size_append, zz0]; first | rfl | (simp [size_str]; done) | (simp [size_str]; omega)
  have qq1 : ¬ (9223372036854775807 < 3 + s.length + 1) := by omega
  have zz2 : ((⟨#[102, 110, 32]⟩ : ByteArray) ++ (⟨s.toArray⟩ : ByteArray) ++ (⟨#[40]⟩ : ByteArray) ++ (⟨u.toArray⟩ : ByteArray)).size = 3 + s.length + 1 + u.length := by rw [ByteArray.size_append, zz1]; first | rfl | (simp [size_str]; done) | (simp [size_str]; omega)
  have qq2 : ¬ (9223372036854775807 < 3 + s.length + 1 + u.length) := by omega
  have zz3 : ((⟨#[102, 110, 32]⟩ : ByteArray) ++ (⟨s.toArray⟩ : ByteArray) ++ (⟨#[40]⟩ : ByteArray) ++ (⟨u.toArray⟩ : ByteArray) ++ (⟨#[41]⟩ : ByteArray)).size = 3 + s.length + 1 + u.length + 1 := by rw [ByteArray.size_append, zz2]; first | rfl | (simp [size_str]; done) | (simp [size_str]; omega)
  have qq3 : ¬ (9223372036854775807 < 3 + s.length + 1 + u.length + 1) := by omega
  have zz4 : ((⟨#[102, 110, 32]⟩ : ByteArray) ++ (⟨s.toArray⟩ : ByteArray) ++ (⟨#[40]⟩ : ByteArray) ++ (⟨u.toArray⟩ : ByteArray) ++ (⟨#[41]⟩ : ByteArray) ++ (⟨#[32, 61, 32]⟩ : ByteArray)).size = 3 + s.length + 1 + u.length + 1 + 3 := by rw [ByteArray.size_append, zz3]; first | rfl | (simp [size_str]; done) | (simp [size_str]; omega)
  have qq4 : ¬ (9223372036854775807 < 3 + s.length + 1 + u.length + 1 + 3) := by omega
  have zz5 : ((⟨#[102, 110, 32]⟩ : ByteArray) ++ (⟨s.toArray⟩ : ByteArray) ++ (⟨#[40]⟩ : ByteArray) ++ (⟨u.toArray⟩ : ByteArray) ++ (⟨#[41]⟩ : ByteArray) ++ (⟨#[32, 61, 32]⟩ : ByteArray) ++ (⟨t.toArray⟩ : ByteArray)).size = 3 + s.length + 1 + u.length + 1 + 3 + t.length := by rw [ByteArray.size_append, zz4]; first | rfl | (simp [size_str]; done) | (simp [size_str]; omega)
  have qq5 : ¬ (9223372036854775807 < 3 + s.length + 1 + u.length + 1 + 3 + t.length) := by omega
  have zz6 : ((⟨#[102, 110, 32]⟩ : ByteArray) ++ (⟨s.toArray⟩ : ByteArray) ++ (⟨#[40]⟩ : ByteArray) ++ (⟨u.toArray⟩ : ByteArray) ++ (⟨#[41]⟩ : ByteArray) ++ (⟨#[32, 61, 32]⟩ : ByteArray) ++ (⟨t.toArray⟩ : ByteArray) ++ (⟨#[59]⟩ : ByteArray)).size = 3 + s.length + 1 + u.length + 1 + 3 + t.length + 1 := by rw [ByteArray.size_append, zz5]; first | rfl | (simp [size_str]; done) | (simp [size_str]; omega)
  have qq6 : ¬ (9223372036854775807 < 3 + s.length + 1 + u.length + 1 + 3 + t.length + 1) := by omega
  go_enter Tryz.func20, Tryz.ntmps20
  go_wp2_with fail
  rw [HW.out]
  refine HNN.out.mono ?_
  rintro e w2 ⟨rfl, hb2⟩
  have hx2 := HX.out.below hb2 hxl
  clear e0 e1 e2 e3 e4 e5 z0 z1 z2 z3 z4 z5
  obtain ⟨⟨e0, e1, e2, e3, e4, e5⟩, z0, z1, z2, z3, z4, z5⟩ := Blk.c6 hx2
  have hxl2 := hx2.lt
  have hb12 := HB1.out.trans (hb2.mono HB1.out.size)
  have HT2 := Lib.hid (HTT.out w2 hb12); have HB12 := Lib.hid hb12
  clear hx2 hb2 hb12
  go_wp2_with fail
  refine HT2.out.mono ?_
  rintro e w3 ⟨rfl, hb3⟩
  have HB2 := Lib.hid (HB12.out.trans (hb3.mono HB12.out.size))
  clear hb3
  go_wp2_with fail
  go_ret
  exact ⟨congrArg (fun x => Ending.returned (.string x)) (bs_eq (by simp only [ByteArray.data_append, Array.toList_append]; try simp)), HB2.out⟩
set_option maxRecDepth 100000 in
set_option maxHeartbeats 2000000 in
theorem stLet (w : World) (k a : Int) (s : Bs) (n : Nat) (A : Option Addr) (la cA : Nat) (B : Option Addr) (lb cB : Nat) (hs : s.length ≤ 1048576) (t : Bs) (ht : t.length ≤ 1099511627776) (HT : ∀ w1, Below w.heap.size w w1 → Calls Tryz.prog 39 #[.slice A la cA, .string ⟨#[]⟩, .bool false] w1 fun e w' => e = .returned (str t) ∧ Below w1.heap.size w1 w') (h6 : k ≠ 6) (h7 : k ≠ 7) (h11 : k ≠ 11) (h8 : k ≠ 8) (h9 : k ≠ 9) (h12 : k ≠ 12) :
    Calls Tryz.prog 20 #[nzA k a s n A la cA B lb cB] w fun e w' => e = .returned (str (s ++ [32, 61, 32] ++ t ++ [59])) ∧ Below w.heap.size w w' := by
  obtain ⟨w1, hw1, hb1, hX1⟩ := a_box w (nB k a s n A la cA B lb cB)
  obtain ⟨⟨e0, e1, e2, e3, e4, e5⟩, z0, z1, z2, z3, z4, z5⟩ := Blk.c6 hX1
  have hxl := hX1.lt
  have HW := Lib.hid hw1; have HB1 := Lib.hid hb1
  have y6 : (k == 6) = false := by simpa using h6
  have y7 : (k == 7) = false := by simpa using h7
  have y11 : (k == 11) = false := by simpa using h11
  have y8 : (k == 8) = false := by simpa using h8
  have y9 : (k == 9) = false := by simpa using h9
  have y12 : (k == 12) = false := by simpa using h12
  clear h6 h7 h11 h8 h9 h12
  have HNN := Lib.hid (HT w1 hb1)
  clear HT hw1 hb1 hX1
  have zz0 : ((⟨s.toArray⟩ : ByteArray) ++ (⟨#[32, 61, 32]⟩ : ByteArray)).size = s.length + 3 := by rw [ByteArray.size_append]; first | rfl | (simp [size_str]; done) | (simp [size_str]; omega)
  have qq0 : ¬ (9223372036854775807 < s.length + 3) := by omega
  have zz1 : ((⟨s.toArray⟩ : ByteArray) ++ (⟨#[32, 61, 32]⟩ : ByteArray) ++ (⟨t.toArray⟩ : ByteArray)).size = s.length + 3 + t.length := by rw [ByteArray.size_append, zz0]; first | rfl | (simp [size_str]; done) | (simp [size_str]; omega)
  have qq1 : ¬ (9223372036854775807 < s.length + 3 + t.length) := by omega
  have zz2 : ((⟨s.toArray⟩ : ByteArray) ++ (⟨#[32, 61, 32]⟩ : ByteArray) ++ (⟨t.toArray⟩ : ByteArray) ++ (⟨#[59]⟩ : ByteArray)).size = s.length + 3 + t.length + 1 := by rw [ByteArray.size_append, zz1]; first | rfl | (simp [size_str]; done) | (simp [size_str]; omega)
  have qq2 : ¬ (9223372036854775807 < s.length + 3 + t.length + 1) := by omega
  go_enter Tryz.func20, Tryz.ntmps20
  go_wp2_with fail
  rw [HW.out]
  refine (HNN.out).mono ?_
  rintro e w2 ⟨rfl, hb2⟩
  have HB2 := Lib.hid (HB1.out.trans (hb2.mono HB1.out.size))
  clear hb2
  go_wp2_with fail
  go_ret
  exact ⟨congrArg (fun x => Ending.returned (.string x)) (bs_eq (by simp only [ByteArray.data_append, Array.toList_append]; try simp)), HB2.out⟩
set_option maxRecDepth 100000 in
set_option maxHeartbeats 2000000 in
theorem st11a (w : World) (a : Int) (s : Bs) (n : Nat) (A : Option Addr) (la cA : Nat) (B : Option Addr) (lb cB : Nat) (hl : la < 2) :
    Calls Tryz.prog 20 #[nzA 11 a s n A la cA B lb cB] w fun e w' => e = .returned (str ([63])) ∧ Below w.heap.size w w' := by
  obtain ⟨w1, hw1, hb1, hX1⟩ := a_box w (nB 11 a s n A la cA B lb cB)
  obtain ⟨⟨e0, e1, e2, e3, e4, e5⟩, z0, z1, z2, z3, z4, z5⟩ := Blk.c6 hX1
  have hxl := hX1.lt
  have HW := Lib.hid hw1; have HB1 := Lib.hid hb1
  have i1 : decide ((la : Int) < 2) = true := by simp; omega
  have i2 : decide (la < 2) = true := by simpa using hl
  clear hw1 hb1 hX1 hl
  go_enter Tryz.func20, Tryz.ntmps20
  go_wp2_with fail
  rw [HW.out]
  go_ret
  exact ⟨rfl, HB1.out⟩
end Go.Proofs.YtokfmclbninkmaaGreatDoor.Rt
/- DERIVED. The reference's text of a for. By an AI agent. -/
namespace Go.Proofs.YtokfmclbninkmaaGreatDoor.Rt
open Go Go.Sort Go.ChangeShapes Go.WideShapes Go.ChangeAt Go.RowKit Lx Args Pa Sh Wr
set_option linter.unusedVariables false
set_option linter.unusedSimpArgs false
set_option maxRecDepth 100000 in
set_option maxHeartbeats 1000000 in
theorem st11 {m : Nat} (H : StR m) (w : World) (a : Int) (s : Bs) (n : Nat) (A : Option Addr) (l : List Tz) (cA : Nat) (B : Option Addr) (lb cB : Nat) (css : List (List Value)) (x0 x1 : Tz) (hs : s.length ≤ 1048576) (hok0 : okz x0) (hok1 : okz x1) (hL : Lies w A css.flatten) (hS : TsIz w (x0 :: x1 :: l) css)
    (hlm : (x0 :: x1 :: l).length ≤ 9223372036854775807) (hm : ∀ (i : Nat) (x : Tz), l[i]? = some x → SizeOf.sizeOf x < m) (hok : okzs l) (hB : ([102, 111, 114, 32] ++ s ++ [32, 105, 110, 32] ++ foT dec 2 (x0 :: x1 :: l) ++ [32, 125]).length ≤ 1099511627776) :
    Calls Tryz.prog 20 #[nzA 11 a s n A (x0 :: x1 :: l).length cA B lb cB] w fun e w' => e = .returned (str ([102, 111, 114, 32] ++ s ++ [32, 105, 110, 32] ++ foT dec 2 (x0 :: x1 :: l) ++ [32, 125])) ∧ Below w.heap.size w w' := by
  obtain ⟨tot, htot⟩ : ∃ tot, [102, 111, 114, 32] ++ s ++ [32, 105, 110, 32] ++ foT dec 2 (x0 :: x1 :: l) = tot := ⟨_, rfl⟩
  have hlen := congrArg List.length htot
  rw [foT_2, foT_1] at hlen
  simp only [List.length_append, List.length_cons, List.length_nil] at hlen
  rw [htot] at hB ⊢
  simp only [List.length_append, List.length_cons, List.length_nil] at hB
  obtain ⟨b0, o0, k0, a0, s0, n0, A0, la0, cA0, B0, lb0, cB0, hA0, hT0, hbl0, g0, g1, g2, g3, g4, g5⟩ := partz_at hL hS (show (x0 :: x1 :: l)[0]? = some x0 from rfl)
  obtain ⟨b1, o1, k1, a1, s1, n1, A1, la1, cA1, B1, lb1, cB1, hA1, hT1, hbl1, j0, j1, j2, j3, j4, j5⟩ := partz_at hL hS (show (x0 :: x1 :: l)[1]? = some x1 from rfl)
  subst hA0
  cases hA1
  simp only [Nat.zero_mul, Nat.add_zero, Nat.one_mul] at g0 g1 g2 g3 g4 g5 j0 j1 j2 j3 j4 j5
  obtain ⟨ln, hln⟩ : ∃ ln, (x0 :: x1 :: l).length = ln := ⟨_, rfl⟩
  have hll : ln = l.length + 2 := by rw [← hln]; simp
  rw [hln] at hlm ⊢
  obtain ⟨w1, hw1, hb1, hX1⟩ := a_box w (nB 11 a s n (some ⟨b0, o0, none⟩) ln cA B lb cB)
  obtain ⟨⟨e0, e1, e2, e3, e4, e5⟩, z0, z1, z2, z3, z4, z5⟩ := Blk.c6 hX1
  have hxl := hX1.lt
  have r0 := fun d os => cell_regrown e0 d os
  have r1 := fun d os => cell_regrown e1 d os
  have r4 := fun d os => cell_regrown e4 d os
  have g0' := fun d os => cell_regrown ((hb1.cell hbl0).trans g0) d os
  have g1' := fun d os => cell_regrown ((hb1.cell hbl0).trans g1) d os
  have g2' := fun d os => cell_regrown ((hb1.cell hbl0).trans g2) d os
  have g3' := fun d os => cell_regrown ((hb1.cell hbl0).trans g3) d os
  have g4' := fun d os => cell_regrown ((hb1.cell hbl0).trans g4) d os
  have g5' := fun d os => cell_regrown ((hb1.cell hbl0).trans g5) d os
  have j0' := fun d os => cell_regrown ((hb1.cell hbl0).trans j0) d os
  have j1' := fun d os => cell_regrown ((hb1.cell hbl0).trans j1) d os
  have j2' := fun d os => cell_regrown ((hb1.cell hbl0).trans j2) d os
  have j3' := fun d os => cell_regrown ((hb1.cell hbl0).trans j3) d os
  have j4' := fun d os => cell_regrown ((hb1.cell hbl0).trans j4) d os
  have j5' := fun d os => cell_regrown ((hb1.cell hbl0).trans j5) d os
  have HE0 := Lib.hid fun (w2 : World) (hb : Below w.heap.size w w2) => exr (SizeOf.sizeOf x0 + 1) x0 (Nat.lt_succ_self _) hok0 (by omega) w2 k0 a0 s0 n0 A0 la0 cA0 B0 lb0 cB0 (TIz.below hb hT0)
  have HE1 := Lib.hid fun (w2 : World) (hb : Below w.heap.size w w2) => exr (SizeOf.sizeOf x1 + 1) x1 (Nat.lt_succ_self _) hok1 (by omega) w2 k1 a1 s1 n1 A1 la1 cA1 B1 lb1 cB1 (TIz.below hb hT1)
  rw [foT_2, foT_1] at htot
  generalize exT dec x0 = t0 at *
  generalize exT dec x1 = t1 at *
  have hl0 : 0 < ln := by omega
  have hl1 : 1 < ln := by omega
  have i1 : decide ((ln : Int) < 2) = false := by simp; omega
  have i2 : decide (ln < 2) = false := by simp; omega
  have HW := Lib.hid hw1; have HB1 := Lib.hid hb1; have HX := Lib.hid hX1; have HL := Lib.hid hL; have HS := Lib.hid hS; have HM := Lib.hid hm; have HOK := Lib.hid hok; have HTOT := Lib.hid htot; have HBB := Lib.hid hB; have HLL := Lib.hid hll; have HLEN := Lib.hid hlen
  have hbl := hb1.size

  have zz0 : ((⟨#[102, 111, 114, 32]⟩ : ByteArray) ++ (⟨s.toArray⟩ : ByteArray)).size = 4 + s.length := by rw [ByteArray.size_append]; first | rfl | (simp [size_str]; done) | (simp [size_str]; omega)
  have qq0 : ¬ (9223372036854775807 < 4 + s.length) := by omega
  have zz1 : ((⟨#[102, 111, 114, 32]⟩ : ByteArray) ++ (⟨s.toArray⟩ : ByteArray) ++ (⟨#[32, 105, 110, 32]⟩ : ByteArray)).size = 4 + s.length + 4 := by rw [ByteArray.size_append, zz0]; first | rfl | (simp [size_str]; done) | (simp [size_str]; omega)
  have qq1 : ¬ (9223372036854775807 < 4 + s.length + 4) := by omega
  have zz2 : ((⟨#[102, 111, 114, 32]⟩ : ByteArray) ++ (⟨s.toArray⟩ : ByteArray) ++ (⟨#[32, 105, 110, 32]⟩ : ByteArray) ++ (⟨t0.toArray⟩ : ByteArray)).size = 4 + s.length + 4 + t0.length := by rw [ByteArray.size_append, zz1]; first | rfl | (simp [size_str]; done) | (simp [size_str]; omega)
  have qq2 : ¬ (9223372036854775807 < 4 + s.length + 4 + t0.length) := by omega
  have zz3 : ((⟨#[102, 111, 114, 32]⟩ : ByteArray) ++ (⟨s.toArray⟩ : ByteArray) ++ (⟨#[32, 105, 110, 32]⟩ : ByteArray) ++ (⟨t0.toArray⟩ : ByteArray) ++ (⟨#[32, 46, 46, 32]⟩ : ByteArray)).size = 4 + s.length + 4 + t0.length + 4 := by rw [ByteArray.size_append, zz2]; first | rfl | (simp [size_str]; done) | (simp [size_str]; omega)
  have qq3 : ¬ (9223372036854775807 < 4 + s.length + 4 + t0.length + 4) := by omega
  have zz4 : ((⟨#[102, 111, 114, 32]⟩ : ByteArray) ++ (⟨s.toArray⟩ : ByteArray) ++ (⟨#[32, 105, 110, 32]⟩ : ByteArray) ++ (⟨t0.toArray⟩ : ByteArray) ++ (⟨#[32, 46, 46, 32]⟩ : ByteArray) ++ (⟨t1.toArray⟩ : ByteArray)).size = 4 + s.length + 4 + t0.length + 4 + t1.length := by rw [ByteArray.size_append, zz3]; first | rfl | (simp [size_str]; done) | (simp [size_str]; omega)
  have qq4 : ¬ (9223372036854775807 < 4 + s.length + 4 + t0.length + 4 + t1.length) := by omega
  have zz5 : ((⟨#[102, 111, 114, 32]⟩ : ByteArray) ++ (⟨s.toArray⟩ : ByteArray) ++ (⟨#[32, 105, 110, 32]⟩ : ByteArray) ++ (⟨t0.toArray⟩ : ByteArray) ++ (⟨#[32, 46, 46, 32]⟩ : ByteArray) ++ (⟨t1.toArray⟩ : ByteArray) ++ (⟨#[32, 123]⟩ : ByteArray)).size = 4 + s.length + 4 + t0.length + 4 + t1.length + 2 := by rw [ByteArray.size_append, zz4]; first | rfl | (simp [size_str]; done) | (simp [size_str]; omega)
  have qq5 : ¬ (9223372036854775807 < 4 + s.length + 4 + t0.length + 4 + t1.length + 2) := by omega
  clear hw1 hb1 hX1 hL hS hm hok htot hB hll hlen hT0 hT1 g0 g1 g2 g3 g4 g5 j0 j1 j2 j3 j4 j5 hln
  go_enter Tryz.func20, Tryz.ntmps20
  go_wp2_with fail
  rw [HW.out]
  refine wp_region_quiet_below (by kernel_rfl) (by kernel_rfl) ?_
  repeat (go_big_quiet_step (first | (go_at_call 24; first | with_reducible exact Calls.regrown_of (HE0.out _ (HB1.out.trans ((below_regrown _ _ _).mono HB1.out.size))) | with_reducible exact Calls.regrown_of (HE1.out _ (HB1.out.trans ((below_regrown _ _ _).mono HB1.out.size))))))
  refine wpQuiet_nil ?_
  intro _ hw'
  obtain ⟨⟨dq, osq⟩, hw''⟩ := hw'
  subst hw''
  have hbq := HB1.out.trans ((below_regrown w1 dq osq).mono HB1.out.size)
  have hxq := HX.out.below (below_regrown w1 dq osq) hxl
  obtain ⟨w2, hw2⟩ : ∃ w2, grow (redrawn w1 dq) osq = w2 := ⟨_, rfl⟩
  rw [hw2] at hbq hxq ⊢
  clear hw2 r0 r1 r4 g0' g1' g2' g3' g4' g5' j0' j1' j2' j3' j4' j5' e0 e1 e2 e3 e4 e5 z0 z1 z2 z3 z4 z5
  obtain ⟨⟨e0, e1, e2, e3, e4, e5⟩, z0, z1, z2, z3, z4, z5⟩ := Blk.c6 hxq
  have hxlq := hxq.lt
  have HBQ := Lib.hid hbq; have HXQ := Lib.hid hxq
  have HSTART := Lib.hid (show ((⟨#[102, 111, 114, 32]⟩ : ByteArray) ++ ⟨s.toArray⟩ ++ ⟨#[32, 105, 110, 32]⟩ ++ ⟨t0.toArray⟩ ++ ⟨#[32, 46, 46, 32]⟩ ++ ⟨t1.toArray⟩ ++ ⟨#[32, 123]⟩).data.toList ++ foT dec 0 ((x0 :: x1 :: l).drop 2) = tot by
    rw [← HTOT.out]
    simp only [ByteArray.data_append, Array.toList_append]
    simp)
  have HLNN := Lib.hid (show (x0 :: x1 :: l).length = ln by rw [HLL.out]; simp)
  obtain ⟨LL, hLL⟩ : ∃ LL, x0 :: x1 :: l = LL := ⟨_, rfl⟩
  have HMM := Lib.hid (show ∀ (j : Nat) (x : Tz), 2 ≤ j → LL[j]? = some x → SizeOf.sizeOf x < m ∧ okz x from fun j x hj hx => by
    rw [← hLL] at hx
    obtain ⟨i, rfl⟩ : ∃ i, j = i + 2 := ⟨j - 2, by omega⟩
    have hx2 : l[i]? = some x := by simpa using hx
    exact ⟨HM.out i x hx2, okzs_at HOK.out hx2⟩)
  rw [hLL] at HS HSTART HLNN
  clear hbq hxq hLL HX HTOT HM HOK HLL HLEN HE0 HE1 qq0 qq1 qq2 qq3 qq4 qq5 zz0 zz1 zz2 zz3 zz4 zz5
  go_wp2_with fail
  go_loopw [3, 4] (fun vs vi wr => ∃ (j : Nat) (S : ByteArray), 2 ≤ j ∧ j ≤ ln ∧ vs = .string S ∧ vi = .int .i64 (j : Int) ∧ Hid (Below w.heap.size w wr) ∧ Hid (Below w2.heap.size w2 wr) ∧ Hid (S.data.toList ++ foT dec 0 (LL.drop j) = tot)) (fun _ vi _ => ln - (intOf vi).toNat)
  case atStart => exact ⟨2, _, Nat.le_refl _, by omega, rfl, rfl, HBQ, Lib.hid (Below.refl _ _), HSTART⟩
  case round =>
    clear e0 e1 e2 e3 e4 e5 z0 z1 z2 z3 z4 z5
    obtain ⟨j, S, hj2, hj, rfl, rfl, HH, HH2, HQ⟩ := hrel
    have hxr := HXQ.out.below HH2.out hxlq
    obtain ⟨⟨e0, e1, e2, e3, e4, e5⟩, z0, z1, z2, z3, z4, z5⟩ := Blk.c6 hxr
    have hxlr := hxr.lt
    have hBB := HBB.out
    have hsd := size_data S
    have hq := HQ.out
    by_cases hlt : j < ln
    · have hlt2 : j < LL.length := by rw [HLNN.out]; exact hlt
      obtain ⟨x, hx⟩ : ∃ x, LL[j]? = some x := ⟨_, List.getElem?_eq_getElem hlt2⟩
      obtain ⟨b2, o2, k3, a3, s3, n3, A3, la3, cA3, B3, lb3, cB3, hAe, hTx, hb3, g0, g1, g2, g3, g4, g5⟩ := partz_at (HL.out.below HH.out) (TsIz.below HH.out HS.out) hx
      cases hAe
      rw [drop_at hx, foT_0] at hq
      have hlen := congrArg List.length hq
      simp only [List.length_append, List.length_cons, List.length_nil] at hlen
      have HC := Lib.hid (H x (HMM.out j x hj2 hx).1 (HMM.out j x hj2 hx).2 (by omega) wr k3 a3 s3 n3 A3 la3 cA3 B3 lb3 cB3 hTx)
      generalize stT dec x = tx at *
      have hz1 : (S ++ ⟨#[32]⟩).size = S.size + 1 := by rw [ByteArray.size_append]; rfl
      have q1 : ¬ (9223372036854775807 < S.size + 1) := by omega
      have q2 : ¬ (9223372036854775807 < S.size + 1 + tx.length) := by omega
      have HQ2 := Lib.hid hq; have HXR := Lib.hid hxr
      clear hq hlen hTx hx HQ hsd hBB hxr hlt2
      go_wp2_with fail
      refine HC.out.mono ?_
      rintro e w3 ⟨rfl, hb5⟩
      have HB3 := Lib.hid (HH.out.trans (hb5.mono HH.out.size)); have HB32 := Lib.hid (HH2.out.trans (hb5.mono HH2.out.size))
      clear hb5
      go_wp2_with fail
      go_roundw
      case rel => exact ⟨j + 1, S ++ ⟨#[32]⟩ ++ ⟨tx.toArray⟩, by omega, by omega, rfl, by go_num, HB3, HB32, Lib.hid (by have := HQ2.out; simp only [ByteArray.data_append, Array.toList_append]; simpa using this)⟩
      case measure => simp [intOf]; omega
    · obtain rfl : j = ln := by omega
      rw [List.drop_eq_nil_of_le (by rw [HLNN.out]; exact Nat.le_refl _), foT_nil, List.append_nil] at hq
      have q1 : ¬ (9223372036854775807 < S.size + 2) := by rw [hsd, hq]; omega
      have HQ2 := Lib.hid hq
      clear hq hsd hBB hxr
      go_wp2_with fail
      go_ret
      exact ⟨congrArg (fun x => Ending.returned (.string x)) (bs_eq (by simp only [ByteArray.data_append, Array.toList_append]; rw [HQ2.out])), HH.out⟩
theorem rst : ∀ m, StR m
  | 0 => fun z h => absurd h (Nat.not_lt_zero _)
  | m + 1 => by
    intro z hm hok hB w k a s n A la cA B lb cB hT
    obtain ⟨k1, a1, s1, n1, ps, l⟩ := z
    obtain ⟨rfl, rfl, rfl, rfl, rfl, rfl, hl, hp, hLB, css, hL, hS⟩ := tIz_parts hT
    have hmm := size_nodes hm
    unfold okz at hok
    have hNA := fun (hn : (naT true ps).length ≤ 1099511627776) (w1 : World) (hb : Below w.heap.size w w1) => namesR B cB ps w1 (hLB.below hb) hp hn
    have hLI := fun (hn : (liT dec [] false true l).length ≤ 1099511627776) (w1 : World) (hb : Below w.heap.size w w1) => show Calls Tryz.prog 39 #[.slice A l.length cA, .string ⟨#[]⟩, .bool false] w1 fun e w' => e = .returned (Rt.str (liT dec [] false true l)) ∧ Below w1.heap.size w1 w' from listR (exr m) l hmm hok.2.2.2 ⟨#[]⟩ false A cA css w1 (hL.below hb) (TsIz.below hb hS) hl (by decide) hn
    rw [stT_mk] at hB ⊢
    by_cases h6 : k = 6
    · subst h6
      simp only [if_true, List.length_append] at hB
      simp only [if_true]
      exact st6 w a s n A l.length cA B ps.length cB (naT true ps) (by omega) (hNA (by omega))
    rw [if_neg h6] at hB ⊢
    by_cases h7 : k = 7
    · subst h7
      simp only [if_true, List.length_append] at hB
      simp only [if_true]
      exact st7 w a s n A l.length cA B ps.length cB (naT true ps) (by omega) (hNA (by omega))
    rw [if_neg h7] at hB ⊢
    by_cases h11 : k = 11
    · subst h11
      simp only [if_true] at hB ⊢
      match l, hl, hmm, hok, hB, hL, hS with
      | [], _, _, _, _, _, _ => exact st11a w a s n A 0 cA B ps.length cB (by decide)
      | [x], _, _, _, _, _, _ => exact st11a w a s n A 1 cA B ps.length cB (by decide)
      | x0 :: x1 :: l, hl, hmm, hok, hB, hL, hS =>
        rw [if_neg (by simp)] at hB ⊢
        have hok2 : okzs l := by
          have := hok.2.2.2
          unfold okzs okzs at this
          exact this.2.2
        exact st11 (rst m) w a s n A l cA B ps.length cB css x0 x1 hok.1 (okzs_at hok.2.2.2 (i := 0) rfl) (okzs_at hok.2.2.2 (i := 1) rfl) hL hS hl (fun i x hx => hmm (i + 2) x (by simpa using hx)) hok2 hB
    rw [if_neg h11] at hB ⊢
    by_cases h8 : k = 8
    · subst h8
      simp only [List.length_append] at hB
      have := st8 w a s n A l.length cA B ps.length cB hok.1 (liT dec [] false true l) (by omega) (hLI (by omega))
      simpa using this
    by_cases h9 : k = 9
    · subst h9
      simp only [List.length_append] at hB
      have := st9 w a s n A l.length cA B ps.length cB hok.1 (liT dec [] false true l) (by omega) (hLI (by omega))
      simpa using this
    by_cases h12 : k = 12
    · subst h12
      simp at hB
      have := st12 w a s n A l.length cA B ps.length cB hok.1 (liT dec [] false true l) (naT true ps) (by omega) (by omega) (hNA (by omega)) (hLI (by omega))
      simpa using this
    · simp only [List.length_append] at hB
      have := stLet w k a s n A l.length cA B ps.length cB hok.1 (liT dec [] false true l) (by omega) (hLI (by omega)) h6 h7 h11 h8 h9 h12
      simpa [h8, h9, h12] using this
end Go.Proofs.YtokfmclbninkmaaGreatDoor.Rt
