/- DERIVED. TpRTake in one text. By an AI agent. -/
import Derived.Test.YtnngnfajmncjpaaGreatDoorZ44
import Derived.Deep.DeepCutAuto
/- DERIVED. The contract of the reference's Take. By an AI agent. -/
namespace Go.Proofs.YtnngnfajmncjpaaGreatDoor.Tp
open Go.ChangeShapes Go.WideShapes Go.ChangeAt Go.RowKit Go.Sort ThRef
set_option linter.unusedVariables false
theorem ret_resR {b k e : Nat} {s : Nums} {w0 w : World} {tmps : Array Value} {r : Nat × Nums × Nat} (h : Holds b k s w) (h2 : tmps.getD 2 undef = .pointer (some ⟨b, 0, none⟩)) (h3 : tmps.getD 3 undef = .int .i64 e) (hr : r = (k, s, e)) (hb : Below w0.heap.size w0 w) :
    bodyPost Tryz.prog Tryz.f25 (fun x w' => x = .returned (resV r) ∧ Below w0.heap.size w0 w') Exit.ret ⟨tmps, []⟩ w := by
  have q0 := h.cell 0; have q1 := h.cell 1; have q2 := h.cell 2; have q3 := h.cell 3; have q4 := h.cell 4
  have h2' : tmps[2]?.getD undef = .pointer (some ⟨b, 0, none⟩) := by simpa using h2
  have h3' : tmps[3]?.getD undef = .int .i64 e := by simpa using h3
  subst hr
  exact bodyPost_ret (v := resV (k, s, e)) (by simp [results, Tryz.results25, go_sem, h2', h3', q0, q1, q2, q3, q4, resV]) rfl ⟨rfl, hb⟩
/-- The bit that comes next. -/
theorem bit_of (h k : Nat) (hk : k < 16) : (h * 2 ^ k % 65536) / 32768 = h / 2 ^ (15 - k) % 2 := by
  have hr : k = 0 ∨ k = 1 ∨ k = 2 ∨ k = 3 ∨ k = 4 ∨ k = 5 ∨ k = 6 ∨ k = 7 ∨ k = 8 ∨ k = 9 ∨ k = 10 ∨ k = 11 ∨ k = 12 ∨ k = 13 ∨ k = 14 ∨ k = 15 := by omega
  rcases hr with rfl | rfl | rfl | rfl | rfl | rfl | rfl | rfl | rfl | rfl | rfl | rfl | rfl | rfl | rfl | rfl <;> simp <;> omega
theorem next_of (h k : Nat) : (h * 2 ^ k % 65536) % 32768 * 2 = h * 2 ^ (k + 1) % 65536 := by
  rw [Nat.pow_succ, ← Nat.mul_assoc]
  generalize h * 2 ^ k = y
  omega
theorem ltr_drop (op k : Nat) (hk : k < (shapeN op).size) : (ltr op).drop k = ((shapeN op)[k]'hk).toNat :: (ltr op).drop (k + 1) := by
  unfold ltr
  rw [← List.map_drop, ← List.map_drop, List.drop_eq_getElem_cons (l := (shapeN op).data.toList) (by simpa using hk), List.map_cons]
  rfl
theorem ltr_in (op k : Nat) (ho : op < 21) (hk : k < (shapeN op).size) : ((shapeN op)[k]'hk).toNat = 48 ∨ ((shapeN op)[k]'hk).toNat = 49 ∨ ((shapeN op)[k]'hk).toNat = 100 ∨ ((shapeN op)[k]'hk).toNat = 99 ∨ ((shapeN op)[k]'hk).toNat = 110 ∨ ((shapeN op)[k]'hk).toNat = 109 ∨ ((shapeN op)[k]'hk).toNat = 105 := by
  have H : ∀ i : Fin 21, (ltr i.val).all (fun c => c == 48 || c == 49 || c == 100 || c == 99 || c == 110 || c == 109 || c == 105) = true := by decide +kernel
  have hm : ((shapeN op)[k]'hk).toNat ∈ ltr op := by
    have := ltr_drop op k hk
    have h2 : ((shapeN op)[k]'hk).toNat ∈ (ltr op).drop k := by rw [this]; exact List.mem_cons_self
    exact List.mem_of_mem_drop h2
  have h3 := List.all_eq_true.1 (H ⟨op, ho⟩) _ hm
  simp at h3
  omega
/-- What the walk knows between two letters. -/
structure Lt (b op h k : Nat) (s : Tk) (x : Nat) (w wx : World) : Prop where
  hold : Holds b op ⟨s.d, s.n, s.m, s.i⟩ wx
  below : Below b w wx
  x : x = h * 2 ^ k % 65536
  run : tkR h ((ltr op).drop k) k s = tkR h (ltr op) 0 tk0
  d : s.d < 2 ^ k
  n : s.n < 2 ^ k
  m : s.m < 2 ^ k
  i : s.i < 2 ^ k
  w : s.w ≤ 2 ^ k
theorem lt_pow {a k : Nat} (h : a < 2 ^ k) (hk : k < 16) : a < 32768 := Nat.lt_of_lt_of_le h (Nat.pow_le_pow_right (n := 2) (by decide) (by omega : k ≤ 15))
theorem le_pow {a k : Nat} (h : a ≤ 2 ^ k) (hk : k < 16) : a ≤ 32768 := Nat.le_trans h (Nat.pow_le_pow_right (n := 2) (by decide) (by omega : k ≤ 15))
theorem pow_dbl {a b k : Nat} (h : a < 2 ^ k) (hb : b ≤ 1) : a * 2 + b < 2 ^ (k + 1) := by rw [Nat.pow_succ]; omega
theorem pow_up {a k : Nat} (h : a < 2 ^ k) : a < 2 ^ (k + 1) := by rw [Nat.pow_succ]; omega
theorem pow_upw {a k : Nat} (h : a ≤ 2 ^ k) : a ≤ 2 ^ (k + 1) := by rw [Nat.pow_succ]; omega
theorem pow_dblw {a k : Nat} (h : a ≤ 2 ^ k) : a * 2 ≤ 2 ^ (k + 1) := by rw [Nat.pow_succ]; omega
theorem Lt.l48 {b0 op h k : Nat} {s : Tk} {x b : Nat} {w wx : World} (hl : Lt b0 op h k s x w wx) (hk : k < 16) (hd : (ltr op).drop k = 48 :: (ltr op).drop (k + 1)) (hb : b ≤ 1) (hx : x / 32768 = b) :
    Lt b0 op h (k + 1) ⟨s.ok && b == 0, s.d, s.n, s.m, s.i, s.w⟩ (x % 32768 * 2) w wx where
  hold := hl.hold
  below := hl.below
  x := by rw [hl.x, next_of]
  run := by
    rw [← hl.run, hd, tkR]
    have e : h / 2 ^ (15 - k) % 2 = b := by rw [← bit_of h k hk, ← hl.x, hx]
    rw [e]
    rfl
  d := pow_up hl.d
  n := pow_up hl.n
  m := pow_up hl.m
  i := pow_up hl.i
  w := pow_upw hl.w
theorem Lt.l49 {b0 op h k : Nat} {s : Tk} {x b : Nat} {w wx : World} (hl : Lt b0 op h k s x w wx) (hk : k < 16) (hd : (ltr op).drop k = 49 :: (ltr op).drop (k + 1)) (hb : b ≤ 1) (hx : x / 32768 = b) :
    Lt b0 op h (k + 1) ⟨s.ok && b == 1, s.d, s.n, s.m, s.i, s.w⟩ (x % 32768 * 2) w wx where
  hold := hl.hold
  below := hl.below
  x := by rw [hl.x, next_of]
  run := by
    rw [← hl.run, hd, tkR]
    have e : h / 2 ^ (15 - k) % 2 = b := by rw [← bit_of h k hk, ← hl.x, hx]
    rw [e]
    rfl
  d := pow_up hl.d
  n := pow_up hl.n
  m := pow_up hl.m
  i := pow_up hl.i
  w := pow_upw hl.w
theorem Lt.l100 {b0 op h k : Nat} {s : Tk} {x b : Nat} {w wx : World} (hl : Lt b0 op h k s x w wx) (hk : k < 16) (hd : (ltr op).drop k = 100 :: (ltr op).drop (k + 1)) (hb : b ≤ 1) (hx : x / 32768 = b) :
    Lt b0 op h (k + 1) ⟨s.ok, s.d * 2 + b, s.n, s.m, s.i, s.w⟩ (x % 32768 * 2) w (wx.setCell ⟨b0, 1, none⟩ (.int .i64 ((s.d * 2 + b : Nat) : Int))) where
  hold := hl.hold.set 0 ((s.d * 2 + b : Nat) : Int)
  below := hl.below.setCell (Nat.le_refl _) _
  x := by rw [hl.x, next_of]
  run := by
    rw [← hl.run, hd, tkR]
    have e : h / 2 ^ (15 - k) % 2 = b := by rw [← bit_of h k hk, ← hl.x, hx]
    rw [e]
    rfl
  d := pow_dbl hl.d hb
  n := pow_up hl.n
  m := pow_up hl.m
  i := pow_up hl.i
  w := pow_upw hl.w
theorem Lt.l99 {b0 op h k : Nat} {s : Tk} {x b : Nat} {w wx : World} (hl : Lt b0 op h k s x w wx) (hk : k < 16) (hd : (ltr op).drop k = 99 :: (ltr op).drop (k + 1)) (hb : b ≤ 1) (hx : x / 32768 = b) :
    Lt b0 op h (k + 1) ⟨s.ok, s.d * 2 + b, s.n, s.m, s.i, s.w⟩ (x % 32768 * 2) w (wx.setCell ⟨b0, 1, none⟩ (.int .i64 ((s.d * 2 + b : Nat) : Int))) where
  hold := hl.hold.set 0 ((s.d * 2 + b : Nat) : Int)
  below := hl.below.setCell (Nat.le_refl _) _
  x := by rw [hl.x, next_of]
  run := by
    rw [← hl.run, hd, tkR]
    have e : h / 2 ^ (15 - k) % 2 = b := by rw [← bit_of h k hk, ← hl.x, hx]
    rw [e]
    rfl
  d := pow_dbl hl.d hb
  n := pow_up hl.n
  m := pow_up hl.m
  i := pow_up hl.i
  w := pow_upw hl.w
theorem Lt.l110 {b0 op h k : Nat} {s : Tk} {x b : Nat} {w wx : World} (hl : Lt b0 op h k s x w wx) (hk : k < 16) (hd : (ltr op).drop k = 110 :: (ltr op).drop (k + 1)) (hb : b ≤ 1) (hx : x / 32768 = b) :
    Lt b0 op h (k + 1) ⟨s.ok, s.d, s.n * 2 + b, s.m, s.i, s.w⟩ (x % 32768 * 2) w (wx.setCell ⟨b0, 2, none⟩ (.int .i64 ((s.n * 2 + b : Nat) : Int))) where
  hold := hl.hold.set 1 ((s.n * 2 + b : Nat) : Int)
  below := hl.below.setCell (Nat.le_refl _) _
  x := by rw [hl.x, next_of]
  run := by
    rw [← hl.run, hd, tkR]
    have e : h / 2 ^ (15 - k) % 2 = b := by rw [← bit_of h k hk, ← hl.x, hx]
    rw [e]
    rfl
  d := pow_up hl.d
  n := pow_dbl hl.n hb
  m := pow_up hl.m
  i := pow_up hl.i
  w := pow_upw hl.w
theorem Lt.l109 {b0 op h k : Nat} {s : Tk} {x b : Nat} {w wx : World} (hl : Lt b0 op h k s x w wx) (hk : k < 16) (hd : (ltr op).drop k = 109 :: (ltr op).drop (k + 1)) (hb : b ≤ 1) (hx : x / 32768 = b) :
    Lt b0 op h (k + 1) ⟨s.ok, s.d, s.n, s.m * 2 + b, s.i, s.w⟩ (x % 32768 * 2) w (wx.setCell ⟨b0, 3, none⟩ (.int .i64 ((s.m * 2 + b : Nat) : Int))) where
  hold := hl.hold.set 2 ((s.m * 2 + b : Nat) : Int)
  below := hl.below.setCell (Nat.le_refl _) _
  x := by rw [hl.x, next_of]
  run := by
    rw [← hl.run, hd, tkR]
    have e : h / 2 ^ (15 - k) % 2 = b := by rw [← bit_of h k hk, ← hl.x, hx]
    rw [e]
    rfl
  d := pow_up hl.d
  n := pow_up hl.n
  m := pow_dbl hl.m hb
  i := pow_up hl.i
  w := pow_upw hl.w
theorem Lt.l105 {b0 op h k : Nat} {s : Tk} {x b : Nat} {w wx : World} (hl : Lt b0 op h k s x w wx) (hk : k < 16) (hd : (ltr op).drop k = 105 :: (ltr op).drop (k + 1)) (hb : b ≤ 1) (hx : x / 32768 = b) :
    Lt b0 op h (k + 1) ⟨s.ok, s.d, s.n, s.m, s.i * 2 + b, s.w * 2⟩ (x % 32768 * 2) w (wx.setCell ⟨b0, 4, none⟩ (.int .i64 ((s.i * 2 + b : Nat) : Int))) where
  hold := hl.hold.set 3 ((s.i * 2 + b : Nat) : Int)
  below := hl.below.setCell (Nat.le_refl _) _
  x := by rw [hl.x, next_of]
  run := by
    rw [← hl.run, hd, tkR]
    have e : h / 2 ^ (15 - k) % 2 = b := by rw [← bit_of h k hk, ← hl.x, hx]
    rw [e]
    rfl
  d := pow_up hl.d
  n := pow_up hl.n
  m := pow_up hl.m
  i := pow_dbl hl.i hb
  w := pow_dblw hl.w
/-- What is left of the numbers' last turn. -/
theorem Lt.fin {b0 op h : Nat} {s : Tk} {x : Nat} {w wx : World} (hl : Lt b0 op h 16 s x w wx) (ho : op < 21) (hh : h < 65536) : s.ok = headB op h ∧ s.nums op = tk op h := by
  have e : (ltr op).drop 16 = [] := List.drop_eq_nil_of_le (by
    unfold ltr
    rw [List.length_map]
    exact Nat.le_of_eq (shape_size op ho))
  have hr := hl.run
  rw [e, tkR] at hr
  rw [hr]
  exact tkR_tk op ho h hh
/-- The taken instruction's block. -/
def Pi (wd : World) (op D N M : Nat) (A : Int) (w : World) : Prop := Holds wd.heap.size op ⟨D, N, M, A⟩ w ∧ Below wd.heap.size wd w
theorem Pi.below {wd w w' : World} {op D N M : Nat} {A : Int} (h : Pi wd op D N M A w) (hb : Below w.heap.size w w') : Pi wd op D N M A w' := ⟨h.1.below hb, h.2.trans (hb.mono h.2.size)⟩
theorem Pi.set {wd w : World} {op D N M : Nat} {A : Int} (h : Pi wd op D N M A w) (B : Int) : Pi wd op D N M B (w.setCell ⟨wd.heap.size, 4, none⟩ (.int .i64 B)) := ⟨h.1.set 3 B, h.2.setCell (Nat.le_refl _) _⟩
theorem low_in (op : Nat) (h : op < 21) : (-1024 ≤ lowN op ∧ lowN op ≤ 1) ∧ 0 ≤ highN op ∧ highN op ≤ 1023 := by
  have H : ∀ i : Fin 21, (-1024 ≤ lowN i.val ∧ lowN i.val ≤ 1) ∧ 0 ≤ highN i.val ∧ highN i.val ≤ 1023 := by decide
  exact H ⟨op, h⟩
theorem adj_is (op I V : Nat) : adj op I V = if ((lowN op == 1) && ((if (decide (lowN op < 0) && decide (highN op < (I : Int))) then (I : Int) - V else I) == 0)) then 32 else (if (decide (lowN op < 0) && decide (highN op < (I : Int))) then (I : Int) - V else I) := by
  unfold adj
  by_cases c1 : lowN op < 0
  · have c3 : ¬ lowN op = 1 := by omega
    by_cases c2 : highN op < (I : Int) <;> simp [c1, c2, c3]
  · by_cases c3 : lowN op = 1 <;> simp [c1, c3]
set_option maxRecDepth 100000 in
set_option maxHeartbeats 40000000 in
theorem takeR (hf : Nat) (hh : hf < 65536) (w : World) : Calls Tryz.prog 25 #[.int .u16 hf] w fun e w' => e = .returned (resV (takeF 21 0 hf)) ∧ Below w.heap.size w w' := by
  go_enter Tryz.func25, Tryz.ntmps25
  go_wp2_with fail
  go_loopw [4] (fun vo wr => ∃ op : Nat, op ≤ 21 ∧ vo = .int .i64 op ∧ Hid (Holds w.heap.size 0 nul wr ∧ Below w.heap.size w wr ∧ takeF (21 - op) op hf = takeF 21 0 hf)) (fun vo _ => 21 - (intOf vo).toNat)
  case atStart => exact ⟨0, by omega, rfl, Lib.hid ⟨holds_new w 0 nul, (Below.refl _ _).alloc (Nat.le_refl _) _, rfl⟩⟩
  case round =>
    obtain ⟨op, hop, rfl, HH⟩ := hrel
    by_cases hlt : op < 21
    · have htf : takeF (21 - op) op hf = if headB op hf && canN op (tk op hf) then (op, tk op hf, 0) else takeF (21 - (op + 1)) (op + 1) hf := by
        rw [show 21 - op = (21 - (op + 1)) + 1 by omega, takeF]
      rw [HH.out.2.2] at htf
      have HTF := Lib.hid htf
      have hsh := ThRef.shape op hlt
      have HSH := Lib.hid hsh
      have hsz := ThRef.shape_size op hlt
      clear htf hsh
      go_wp2_with fail
      refine (HSH.out _).mono ?_
      rintro e wd ⟨rfl, hbd⟩
      have HD := Lib.hid (And.intro (HH.out.1.below hbd) (HH.out.2.1.trans (hbd.mono HH.out.2.1.size)))
      clear hbd HH
      go_wp2_with fail
      go_loopw [7, 8, 9, 10] (fun vok vw vx vk wx => ∃ (k x : Nat) (ok : Bool) (D N M I V : Nat), k ≤ 16 ∧ vk = .int .i64 k ∧ vok = .bool ok ∧ vw = .int .i64 V ∧ vx = .int .i64 x ∧ x < 65536 ∧ Hid (Lt wd.heap.size op hf k ⟨ok, D, N, M, I, V⟩ x wd wx)) (fun _ _ _ vk _ => 16 - (intOf vk).toNat)
      case atStart => exact ⟨0, hf, true, 0, 0, 0, 0, 1, by omega, rfl, rfl, rfl, rfl, hh, Lib.hid ⟨holds_new wd op nul, (Below.refl _ _).alloc (Nat.le_refl _) _, by rw [Nat.pow_zero, Nat.mul_one]; omega, rfl, by decide, by decide, by decide, by decide, by decide⟩⟩
      case round =>
        rename World => wx
        obtain ⟨k, x, ok, D, N, M, I, V, hk, rfl, rfl, rfl, rfl, hx, HL⟩ := hrel
        by_cases hk16 : k < 16
        · have hks : k < (shapeN op).size := by omega
          have hidx := idx_s (shapeN op) k hks
          have hin := ltr_in op k hlt hks
          have hdr := ltr_drop op k hks
          generalize ((shapeN op)[k]'hks).toNat = c at hidx hin hdr
          have hd32 : D < 32768 := lt_pow HL.out.d hk16; have hn32 : N < 32768 := lt_pow HL.out.n hk16; have hm32 : M < 32768 := lt_pow HL.out.m hk16; have hi32 : I < 32768 := lt_pow HL.out.i hk16; have hw32 : V ≤ 32768 := le_pow HL.out.w hk16
          have q1 : wx.cell? ⟨wd.heap.size, 1, none⟩ = some (.int .i64 D) := HL.out.hold.cell 1
          have q2 : wx.cell? ⟨wd.heap.size, 2, none⟩ = some (.int .i64 N) := HL.out.hold.cell 2
          have q3 : wx.cell? ⟨wd.heap.size, 3, none⟩ = some (.int .i64 M) := HL.out.hold.cell 3
          have q4 : wx.cell? ⟨wd.heap.size, 4, none⟩ = some (.int .i64 I) := HL.out.hold.cell 4
          have z1 := HL.out.hold.free 1; have z2 := HL.out.hold.free 2; have z3 := HL.out.hold.free 3; have z4 := HL.out.hold.free 4
          have HDR := Lib.hid hdr
          clear hdr hsz
          rcases hin with rfl | rfl | rfl | rfl | rfl | rfl | rfl
          · by_cases hbit : 32768 ≤ x
            · have hl := HL.out.l48 hk16 HDR.out (b := 1) (by omega) (by omega)
              have hxn : x % 32768 * 2 = (x - 32768) * 2 := by omega
              rw [hxn] at hl
              have HLN := Lib.hid hl
              clear hl hxn
              have HBIT := Lib.hid hbit
              have e1 : decide (32768 ≤ (x : Int)) = true := by simp; omega
              clear hbit
              cases ok
              all_goals
                go_wp2_with fail
                go_roundw
                case rel => (have hb := HBIT.out; exact ⟨k + 1, (x - 32768) * 2, _, _, _, _, _, _, by omega, by go_num, by rfl, by rfl, by go_num, by omega, HLN⟩)
                case measure => simp [intOf]; omega
            · have hl := HL.out.l48 hk16 HDR.out (b := 0) (by omega) (by omega)
              have hxn : x % 32768 * 2 = x * 2 := by omega
              rw [hxn] at hl
              have HLN := Lib.hid hl
              clear hl hxn
              have HBIT := Lib.hid hbit
              have e1 : decide (32768 ≤ (x : Int)) = false := by simp; omega
              clear hbit
              cases ok
              all_goals
                go_wp2_with fail
                go_roundw
                case rel => (have hb := HBIT.out; exact ⟨k + 1, x * 2, _, _, _, _, _, _, by omega, by go_num, by rfl, by rfl, by go_num, by omega, HLN⟩)
                case measure => simp [intOf]; omega
          · by_cases hbit : 32768 ≤ x
            · have hl := HL.out.l49 hk16 HDR.out (b := 1) (by omega) (by omega)
              have hxn : x % 32768 * 2 = (x - 32768) * 2 := by omega
              rw [hxn] at hl
              have HLN := Lib.hid hl
              clear hl hxn
              have HBIT := Lib.hid hbit
              have e1 : decide (32768 ≤ (x : Int)) = true := by simp; omega
              clear hbit
              cases ok
              all_goals
                go_wp2_with fail
                go_roundw
                case rel => (have hb := HBIT.out; exact ⟨k + 1, (x - 32768) * 2, _, _, _, _, _, _, by omega, by go_num, by rfl, by rfl, by go_num, by omega, HLN⟩)
                case measure => simp [intOf]; omega
            · have hl := HL.out.l49 hk16 HDR.out (b := 0) (by omega) (by omega)
              have hxn : x % 32768 * 2 = x * 2 := by omega
              rw [hxn] at hl
              have HLN := Lib.hid hl
              clear hl hxn
              have HBIT := Lib.hid hbit
              have e1 : decide (32768 ≤ (x : Int)) = false := by simp; omega
              clear hbit
              cases ok
              all_goals
                go_wp2_with fail
                go_roundw
                case rel => (have hb := HBIT.out; exact ⟨k + 1, x * 2, _, _, _, _, _, _, by omega, by go_num, by rfl, by rfl, by go_num, by omega, HLN⟩)
                case measure => simp [intOf]; omega
          · by_cases hbit : 32768 ≤ x
            · have hl := HL.out.l100 hk16 HDR.out (b := 1) (by omega) (by omega)
              have hxn : x % 32768 * 2 = (x - 32768) * 2 := by omega
              rw [hxn] at hl
              have HLN := Lib.hid hl
              clear hl hxn
              have HBIT := Lib.hid hbit
              have e1 : decide (32768 ≤ (x : Int)) = true := by simp; omega
              clear hbit
              go_wp2_with fail
              go_roundw
              case rel => (have hb := HBIT.out; exact ⟨k + 1, (x - 32768) * 2, _, _, _, _, _, _, by omega, by go_num, by rfl, by first | rfl | go_num, by go_num, by omega, HLN⟩)
              case measure => simp [intOf]; omega
            · have hl := HL.out.l100 hk16 HDR.out (b := 0) (by omega) (by omega)
              have hxn : x % 32768 * 2 = x * 2 := by omega
              rw [hxn] at hl
              have HLN := Lib.hid hl
              clear hl hxn
              have HBIT := Lib.hid hbit
              have e1 : decide (32768 ≤ (x : Int)) = false := by simp; omega
              clear hbit
              go_wp2_with fail
              go_roundw
              case rel => (have hb := HBIT.out; exact ⟨k + 1, x * 2, _, _, _, _, _, _, by omega, by go_num, by rfl, by first | rfl | go_num, by go_num, by omega, HLN⟩)
              case measure => simp [intOf]; omega
          · by_cases hbit : 32768 ≤ x
            · have hl := HL.out.l99 hk16 HDR.out (b := 1) (by omega) (by omega)
              have hxn : x % 32768 * 2 = (x - 32768) * 2 := by omega
              rw [hxn] at hl
              have HLN := Lib.hid hl
              clear hl hxn
              have HBIT := Lib.hid hbit
              have e1 : decide (32768 ≤ (x : Int)) = true := by simp; omega
              clear hbit
              go_wp2_with fail
              go_roundw
              case rel => (have hb := HBIT.out; exact ⟨k + 1, (x - 32768) * 2, _, _, _, _, _, _, by omega, by go_num, by rfl, by first | rfl | go_num, by go_num, by omega, HLN⟩)
              case measure => simp [intOf]; omega
            · have hl := HL.out.l99 hk16 HDR.out (b := 0) (by omega) (by omega)
              have hxn : x % 32768 * 2 = x * 2 := by omega
              rw [hxn] at hl
              have HLN := Lib.hid hl
              clear hl hxn
              have HBIT := Lib.hid hbit
              have e1 : decide (32768 ≤ (x : Int)) = false := by simp; omega
              clear hbit
              go_wp2_with fail
              go_roundw
              case rel => (have hb := HBIT.out; exact ⟨k + 1, x * 2, _, _, _, _, _, _, by omega, by go_num, by rfl, by first | rfl | go_num, by go_num, by omega, HLN⟩)
              case measure => simp [intOf]; omega
          · by_cases hbit : 32768 ≤ x
            · have hl := HL.out.l110 hk16 HDR.out (b := 1) (by omega) (by omega)
              have hxn : x % 32768 * 2 = (x - 32768) * 2 := by omega
              rw [hxn] at hl
              have HLN := Lib.hid hl
              clear hl hxn
              have HBIT := Lib.hid hbit
              have e1 : decide (32768 ≤ (x : Int)) = true := by simp; omega
              clear hbit
              go_wp2_with fail
              go_roundw
              case rel => (have hb := HBIT.out; exact ⟨k + 1, (x - 32768) * 2, _, _, _, _, _, _, by omega, by go_num, by rfl, by first | rfl | go_num, by go_num, by omega, HLN⟩)
              case measure => simp [intOf]; omega
            · have hl := HL.out.l110 hk16 HDR.out (b := 0) (by omega) (by omega)
              have hxn : x % 32768 * 2 = x * 2 := by omega
              rw [hxn] at hl
              have HLN := Lib.hid hl
              clear hl hxn
              have HBIT := Lib.hid hbit
              have e1 : decide (32768 ≤ (x : Int)) = false := by simp; omega
              clear hbit
              go_wp2_with fail
              go_roundw
              case rel => (have hb := HBIT.out; exact ⟨k + 1, x * 2, _, _, _, _, _, _, by omega, by go_num, by rfl, by first | rfl | go_num, by go_num, by omega, HLN⟩)
              case measure => simp [intOf]; omega
          · by_cases hbit : 32768 ≤ x
            · have hl := HL.out.l109 hk16 HDR.out (b := 1) (by omega) (by omega)
              have hxn : x % 32768 * 2 = (x - 32768) * 2 := by omega
              rw [hxn] at hl
              have HLN := Lib.hid hl
              clear hl hxn
              have HBIT := Lib.hid hbit
              have e1 : decide (32768 ≤ (x : Int)) = true := by simp; omega
              clear hbit
              go_wp2_with fail
              go_roundw
              case rel => (have hb := HBIT.out; exact ⟨k + 1, (x - 32768) * 2, _, _, _, _, _, _, by omega, by go_num, by rfl, by first | rfl | go_num, by go_num, by omega, HLN⟩)
              case measure => simp [intOf]; omega
            · have hl := HL.out.l109 hk16 HDR.out (b := 0) (by omega) (by omega)
              have hxn : x % 32768 * 2 = x * 2 := by omega
              rw [hxn] at hl
              have HLN := Lib.hid hl
              clear hl hxn
              have HBIT := Lib.hid hbit
              have e1 : decide (32768 ≤ (x : Int)) = false := by simp; omega
              clear hbit
              go_wp2_with fail
              go_roundw
              case rel => (have hb := HBIT.out; exact ⟨k + 1, x * 2, _, _, _, _, _, _, by omega, by go_num, by rfl, by first | rfl | go_num, by go_num, by omega, HLN⟩)
              case measure => simp [intOf]; omega
          · by_cases hbit : 32768 ≤ x
            · have hl := HL.out.l105 hk16 HDR.out (b := 1) (by omega) (by omega)
              have hxn : x % 32768 * 2 = (x - 32768) * 2 := by omega
              rw [hxn] at hl
              have HLN := Lib.hid hl
              clear hl hxn
              have HBIT := Lib.hid hbit
              have e1 : decide (32768 ≤ (x : Int)) = true := by simp; omega
              clear hbit
              go_wp2_with fail
              go_roundw
              case rel => (have hb := HBIT.out; exact ⟨k + 1, (x - 32768) * 2, _, _, _, _, _, _, by omega, by go_num, by rfl, by first | rfl | go_num, by go_num, by omega, HLN⟩)
              case measure => simp [intOf]; omega
            · have hl := HL.out.l105 hk16 HDR.out (b := 0) (by omega) (by omega)
              have hxn : x % 32768 * 2 = x * 2 := by omega
              rw [hxn] at hl
              have HLN := Lib.hid hl
              clear hl hxn
              have HBIT := Lib.hid hbit
              have e1 : decide (32768 ≤ (x : Int)) = false := by simp; omega
              clear hbit
              go_wp2_with fail
              go_roundw
              case rel => (have hb := HBIT.out; exact ⟨k + 1, x * 2, _, _, _, _, _, _, by omega, by go_num, by rfl, by first | rfl | go_num, by go_num, by omega, HLN⟩)
              case measure => simp [intOf]; omega
        · obtain rfl : k = 16 := by omega
          have hfin := HL.out.fin hlt hh
          have hP : Pi wd op D N M I wx := ⟨HL.out.hold, HL.out.below⟩
          have hI : I < 65536 := HL.out.i
          have hV : V ≤ 65536 := HL.out.w
          have hlo := low_in op hlt
          have hadj := adj_is op I V
          have HFIN := Lib.hid hfin; have HP := Lib.hid hP; have HADJ := Lib.hid hadj
          have HLO := Lib.hid (ThRef.low op hlt); have HHI := Lib.hid (ThRef.high op hlt)
          clear HL hfin hP hadj
          generalize lowN op = lo at hlo HLO HADJ
          generalize highN op = hi at hlo HHI HADJ
          go_upto_region 26 with fail
          go_cut [92] (fun v wy => v = .bool (decide (lo < 0) && decide (hi < (I : Int))) ∧ Hid (Pi wd op D N M I wy))
          case first =>
            have q4 : wx.cell? ⟨wd.heap.size, 4, none⟩ = some (.int .i64 I) := HP.out.1.cell 4
            have r4 := fun d os => cell_regrown q4 d os
            by_cases c1 : lo < 0
            · have e1 : decide (lo < 0) = true := by simpa using c1
              clear c1 q4
              go_wp2_with fail
              refine wp_region_quiet_below (by kernel_rfl) (by kernel_rfl) ?_
              repeat (go_big_quiet_step ((first | (go_at_call 43; exact Calls.regrown_of (HLO.out _)) | (go_at_call 44; exact Calls.regrown_of (HHI.out _)))))
              refine wpQuiet_nil ?_
              intro _ hw'
              obtain ⟨⟨dq, osq⟩, hw''⟩ := hw'
              subst hw''
              go_wp2_with fail
              go_meet
              exact ⟨by rw [e1]; rfl, Lib.hid (HP.out.below (below_regrown _ dq osq))⟩
            · have e1 : decide (lo < 0) = false := by simpa using c1
              clear c1 q4
              go_wp2_with fail
              refine wp_region_quiet_below (by kernel_rfl) (by kernel_rfl) ?_
              repeat (go_big_quiet_step ((first | (go_at_call 43; exact Calls.regrown_of (HLO.out _)) | (go_at_call 44; exact Calls.regrown_of (HHI.out _)))))
              refine wpQuiet_nil ?_
              intro _ hw'
              obtain ⟨⟨dq, osq⟩, hw''⟩ := hw'
              subst hw''
              go_wp2_with fail
              go_meet
              exact ⟨by rw [e1]; rfl, Lib.hid (HP.out.below (below_regrown _ dq osq))⟩
          case rest =>
            rename World => wy
            obtain ⟨rfl, HP1⟩ := hcut
            clear HP
            generalize (decide (lo < 0) && decide (hi < (I : Int))) = B1 at HADJ
            go_upto_if 92 with fail
            go_cut [] (fun wz => Hid (Pi wd op D N M (if B1 then (I : Int) - V else I) wz))
            case first =>
              have q4 : wy.cell? ⟨wd.heap.size, 4, none⟩ = some (.int .i64 I) := HP1.out.1.cell 4
              have z4 := HP1.out.1.free 4
              have hst := HP1.out.set ((I : Int) - V)
              have HST := Lib.hid hst
              clear hst
              cases B1
              · go_wp2_with fail
                go_meet
                exact HP1
              · go_wp2_with fail
                go_meet
                exact HST
            case rest =>
              rename World => wz
              have HP2 := hcut
              clear hcut HP1
              have hA : ∃ A1 : Int, (if B1 then (I : Int) - V else I) = A1 := ⟨_, rfl⟩
              obtain ⟨A1, hA1⟩ := hA
              have hp2 := HP2.out
              have hadj := HADJ.out
              rw [hA1] at hp2 hadj
              have HP3 := Lib.hid hp2; have HADJ2 := Lib.hid hadj
              clear HP2 HADJ hp2 hadj hA1
              go_upto_region 28 with fail
              go_cut [105] (fun v wt => v = .bool ((lo == 1) && (A1 == 0)) ∧ Hid (Pi wd op D N M A1 wt))
              case first =>
                have e5 : (lo == 1) = true ∨ (lo == 1) = false := by cases (lo == 1) <;> simp
                rcases e5 with e5 | e5
                all_goals
                  go_wp2_with fail
                  refine (HLO.out _).mono ?_
                  rintro e wl ⟨rfl, hbl⟩
                  have HP4 := Lib.hid (HP3.out.below hbl)
                  have q4 : wl.cell? ⟨wd.heap.size, 4, none⟩ = some (.int .i64 A1) := HP4.out.1.cell 4
                  clear hbl
                  go_wp2_with fail
                  go_meet
                  exact ⟨by rw [e5]; rfl, HP4⟩
              case rest =>
                rename World => wt
                obtain ⟨rfl, HP4⟩ := hcut
                clear HP3
                generalize ((lo == 1) && (A1 == 0)) = B2 at HADJ2
                go_upto_if 105 with fail
                go_cut [] (fun wu => Hid (Pi wd op D N M (if B2 then 32 else A1) wu))
                case first =>
                  have z4 := HP4.out.1.free 4
                  have q4 : wt.cell? ⟨wd.heap.size, 4, none⟩ = some (.int .i64 A1) := HP4.out.1.cell 4
                  have hst := HP4.out.set 32
                  have HST := Lib.hid hst
                  clear hst
                  cases B2
                  · go_wp2_with fail
                    go_meet
                    exact HP4
                  · go_wp2_with fail
                    go_meet
                    exact HST
                case rest =>
                  rename World => wu
                  have hp5 := hcut.out
                  rw [← HADJ2.out] at hp5
                  have hfin := HFIN.out
                  have htf := HTF.out
                  have hnm : (⟨(D : Int), (N : Int), (M : Int), adj op I V⟩ : Nums) = tk op hf := hfin.2
                  have hok : ok = headB op hf := hfin.1
                  have hH5 := hp5.1
                  rw [hnm] at hH5
                  rw [← hok] at htf
                  have HW5 := Lib.hid (HD.out.2.trans (hp5.2.mono HD.out.2.size))
                  have HR5 := Lib.hid (HD.out.1.below hp5.2)
                  have HH5 := Lib.hid hH5
                  have hcn : canN op (tk op hf) = canB op (tk op hf).d (tk op hf).n (tk op hf).m (tk op hf).i := rfl
                  rw [hcn] at htf
                  have hcan := ThRef.can op (tk op hf).d (tk op hf).n (tk op hf).m (tk op hf).i
                  generalize canB op (tk op hf).d (tk op hf).n (tk op hf).m (tk op hf).i = cb at hcan htf
                  have HCAN := Lib.hid hcan; have HTF2 := Lib.hid htf
                  clear hcut hp5 hfin htf hnm hok hH5 hcn hcan HTF HFIN HADJ2 HP4 HLO HHI hlo hI hV
                  cases ok
                  · go_wp2_with fail
                    go_roundw
                    case rel => exact ⟨op + 1, by omega, by go_num, Lib.hid ⟨HR5.out, HW5.out, by rw [HTF2.out]; rfl⟩⟩
                    case measure => simp [intOf]; omega
                  · have q0 := HH5.out.cell 0; have q1 := HH5.out.cell 1; have q2 := HH5.out.cell 2; have q3 := HH5.out.cell 3; have q4 := HH5.out.cell 4
                    go_wp2_with fail
                    refine (HCAN.out _).mono ?_
                    rintro e w5 ⟨rfl, hb5⟩
                    have HB5 := Lib.hid (HW5.out.trans (hb5.mono HW5.out.size))
                    have hH6 := HH5.out.below hb5
                    have hR6 := HR5.out.below hb5
                    clear q0 q1 q2 q3 q4 hb5
                    cases cb
                    · have HR6 := Lib.hid hR6
                      clear hR6 hH6
                      go_wp2_with fail
                      go_roundw
                      case rel => exact ⟨op + 1, by omega, by go_num, Lib.hid ⟨HR6.out, HB5.out, by rw [HTF2.out]; rfl⟩⟩
                      case measure => simp [intOf]; omega
                    · have q0 := hH6.cell 0; have q1 := hH6.cell 1; have q2 := hH6.cell 2; have q3 := hH6.cell 3; have q4 := hH6.cell 4
                      have p0 := hR6.cell 0; have p1 := hR6.cell 1; have p2 := hR6.cell 2; have p3 := hR6.cell 3; have p4 := hR6.cell 4
                      have z0 := hR6.free 0; have z1 := hR6.free 1; have z2 := hR6.free 2; have z3 := hR6.free 3; have z4 := hR6.free 4
                      have HST := Lib.hid (hR6.store op (tk op hf))
                      clear hR6 hH6
                      go_wp2_with fail
                      have hb6 := ((((HB5.out.setCell (p := ⟨w.heap.size, 0, none⟩) (Nat.le_refl _) (.int .i64 op)).setCell (p := ⟨w.heap.size, 1, none⟩) (Nat.le_refl _) (.int .i64 (tk op hf).d)).setCell (p := ⟨w.heap.size, 2, none⟩) (Nat.le_refl _) (.int .i64 (tk op hf).n)).setCell (p := ⟨w.heap.size, 3, none⟩) (Nat.le_refl _) (.int .i64 (tk op hf).m)).setCell (p := ⟨w.heap.size, 4, none⟩) (Nat.le_refl _) (.int .i64 (tk op hf).i)
                      exact ret_resR HST.out rfl rfl (by rw [HTF2.out]; rfl) hb6
    · have e21 : op = 21 := by omega
      subst e21
      have hR := HH.out.1
      have p0 := hR.cell 0; have p1 := hR.cell 1; have p2 := hR.cell 2; have p3 := hR.cell 3; have p4 := hR.cell 4
      have z0 := hR.free 0; have z1 := hR.free 1; have z2 := hR.free 2; have z3 := hR.free 3; have z4 := hR.free 4
      have HST := Lib.hid (hR.store 0 nul)
      have htf := HH.out.2.2
      have HTF := Lib.hid htf
      clear hR htf
      go_wp2_with fail
      have hb6 := ((((HH.out.2.1.setCell (p := ⟨w.heap.size, 0, none⟩) (Nat.le_refl _) (.int .i64 0)).setCell (p := ⟨w.heap.size, 1, none⟩) (Nat.le_refl _) (.int .i64 0)).setCell (p := ⟨w.heap.size, 2, none⟩) (Nat.le_refl _) (.int .i64 0)).setCell (p := ⟨w.heap.size, 3, none⟩) (Nat.le_refl _) (.int .i64 0)).setCell (p := ⟨w.heap.size, 4, none⟩) (Nat.le_refl _) (.int .i64 0)
      exact ret_resR HST.out rfl rfl (by rw [← HTF.out]; rfl) hb6
end Go.Proofs.YtnngnfajmncjpaaGreatDoor.Tp
