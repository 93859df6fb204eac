/- DERIVED. TxPp, TxPq in one text. By an AI agent. -/
import Derived.Test.YtnngnfajmncjpaaGreatDoorZ27
import Derived.Test.YtnngnfajmncjpaaGreatDoorZ29
import Derived.Test.YtnngnfajmncjpaaGreatDoorZ11
import Derived.Test.YtnngnfajmncjpaaGreatDoorZ28
/- DERIVED. Code's lines as the pieces of their text. Of no program. By an AI agent. -/
namespace Go.Proofs.YtnngnfajmncjpaaGreatDoor.Tx
open Go.ChangeShapes Go.WideShapes Go.ChangeAt Go.RowKit Go.Lib Go.Sort Args
set_option linter.unusedVariables false
theorem wd_nl (ws : List Txt) (hws : ws = aluW ∨ ws = cndW) (j : Nat) : ∀ x ∈ ws[j]?.getD [], x ≠ 10 := by
  have hall : ∀ y ∈ ws, ∀ x ∈ y, x ≠ 10 := by rcases hws with rfl | rfl <;> decide
  by_cases hj : j < ws.length
  · rw [List.getElem?_eq_getElem hj]
    exact hall _ (List.getElem_mem hj)
  · rw [List.getElem?_eq_none (by omega)]
    intro x hx
    cases hx
theorem nl_nat {x : UInt8} (h : x.toNat ≠ 10) : x ≠ 10 := fun e => h (by rw [e]; rfl)
theorem show_nl {c : UInt8} {p : Pl} (hc : plc c = some p) (s : Nm) : ∀ x ∈ p.show s, x ≠ 10 := by
  unfold Pl.show
  rcases plc_ws hc with h | h
  · rw [if_pos h]
    have hm : p.mark ≠ 10 := by
      unfold plc at hc
      repeat' (split at hc)
      all_goals first | (cases hc; decide) | cases hc
    intro x hx
    rw [List.mem_cons] at hx
    rcases hx with rfl | hx
    · exact hm
    · have := (itoa_stp _ x hx).2
      exact nl_nat (by omega)
  · rw [if_neg (by rcases h with h | h <;> rw [h] <;> decide)]
    exact wd_nl p.ws h _
theorem wr_nl (s : Nm) : ∀ (sh : Txt), (∀ c ∈ sh, c ≠ 10) → ∀ x ∈ wr sh s, x ≠ 10
  | [], _, x, hx => by cases hx
  | c :: r, h, x, hx => by
    unfold wr at hx
    rw [List.mem_append] at hx
    rcases hx with hx | hx
    · cases hc : plc c with
      | none => rw [hc] at hx; simp only [List.mem_singleton] at hx; rw [hx]; exact h c (by simp)
      | some p => rw [hc] at hx; exact show_nl hc s x hx
    · exact wr_nl s r (fun c hc => h c (by simp [hc])) x hx
theorem wr_mem (s : Nm) : ∀ (sh : Txt) (c : UInt8), c ∈ sh → plc c = none → c ∈ wr sh s
  | d :: r, c, hm, hc => by
    unfold wr
    rw [List.mem_append]
    rcases List.mem_cons.1 hm with rfl | hm
    · rw [hc]; exact .inl (by simp)
    · exact .inr (wr_mem s r c hm hc)
theorem shp_nl : ∀ k : Fin 21, ((shpN k.val).all fun c => decide (c ≠ 10)) = true ∧ ((shpN k.val).any fun c => (plc c).isNone) = true := by decide +kernel
theorem hexd_nl (n : Nat) (h : n < 16) : Lives.hexd n ≠ 10 := by
  have H : ∀ k : Fin 16, Lives.hexd k.val ≠ 10 := by decide +kernel
  exact H ⟨n, h⟩
theorem fix_nl (n : Nat) : ∀ k, ∀ x ∈ Lives.fixD n k, x ≠ 10
  | 0, x, hx => by cases hx
  | k + 1, x, hx => by
    unfold Lives.fixD at hx
    rcases List.mem_cons.1 hx with rfl | hx
    · exact hexd_nl _ (Nat.mod_lt _ (by decide))
    · exact fix_nl n k x hx
theorem line_nl (h : Nat) (hh : h < 65536) : (∀ x ∈ lineL h, x ≠ 10) ∧ lineL h ≠ [] := by
  rcases take_cases h hh with ⟨k, s, hok, ht, hp, hl⟩ | ⟨k, e, s, ht, he, hl⟩
  · rw [hl]
    obtain ⟨h1, h2⟩ := shp_nl ⟨k, hok.hk⟩
    refine ⟨wr_nl _ _ fun c hc => ?_, ?_⟩
    · have := List.all_eq_true.1 h1 c hc
      simpa using this
    · obtain ⟨c, hc, hn⟩ := List.any_eq_true.1 h2
      have hm := wr_mem (nm s) (shpN k) c hc (by simpa using hn)
      intro e
      unfold showL at e
      rw [e] at hm
      cases hm
  · rw [hl]
    refine ⟨fun x hx => ?_, List.cons_ne_nil _ _⟩
    rcases List.mem_cons.1 hx with rfl | hx
    · decide
    · exact fix_nl h 4 x hx
theorem split_line (c : UInt8) (r : Txt) : ∀ (x : Txt), (∀ y ∈ x, y ≠ c) → Spl.splitB c (x ++ c :: r) = x :: Spl.splitB c r
  | [], _ => by
    show (if (c == c) = true then _ else _) = _
    rw [if_pos (by simp)]
  | d :: x, h => by
    have ih := split_line c r x fun y hy => h y (List.mem_cons_of_mem _ hy)
    have hd : (d == c) = false := by simpa using h d (List.mem_cons_self ..)
    show (if (d == c) = true then _ else match Spl.splitB c (x ++ c :: r) with | [] => [[d]] | z :: l => (d :: z) :: l) = _
    rw [hd, ih]
    rfl
theorem split_list : ∀ (zs : List Nat), (∀ z ∈ zs, z < 65536) → Spl.splitB 10 (listL zs) = zs.map lineL ++ [[]]
  | [], _ => rfl
  | z :: zs, h => by
    show Spl.splitB 10 (lineL z ++ 10 :: listL zs) = _
    rw [split_line 10 _ _ (line_nl z (h z (List.mem_cons_self ..))).1, split_list zs fun y hy => h y (List.mem_cons_of_mem _ hy)]
    rfl
/-- What has come and what comes: line k, or the empty rest. -/
theorem pre_at {zs : List Nat} {pre : List Txt} {x : Txt} (h : pre ++ [x] <+: zs.map lineL ++ [[]]) : (∃ hk : pre.length < zs.length, x = lineL (zs[pre.length]'hk)) ∨ (pre.length = zs.length ∧ x = []) := by
  obtain ⟨t, ht⟩ := h
  have hx : (zs.map lineL ++ [[]])[pre.length]? = some x := by rw [← ht]; simp
  by_cases hk : pre.length < zs.length
  · refine .inl ⟨hk, ?_⟩
    rw [List.getElem?_append_left (by simpa using hk), List.getElem?_map, List.getElem?_eq_getElem hk] at hx
    injection hx with hx
    exact hx.symm
  · have hle : pre.length ≤ zs.length := by
      have := congrArg List.length ht
      simp at this
      omega
    have he : pre.length = zs.length := by omega
    refine .inr ⟨he, ?_⟩
    rw [List.getElem?_append_right (by simp; omega)] at hx
    simp [he] at hx
    exact hx
end Go.Proofs.YtnngnfajmncjpaaGreatDoor.Tx
/- DERIVED. text.Program: its boxes. By an AI agent. -/
namespace Go.Proofs.YtnngnfajmncjpaaGreatDoor.Tx
open Go Go.ChangeShapes Go.WideShapes Go.ChangeAt Go.RowKit Go.Lib Go.Sort Go.Shelf Args
set_option linter.unusedVariables false
set_option linter.unusedSimpArgs false
attribute [local go_sem] Oper.semAt_some
theorem infoU : (Tryz.prog.info? 34).map (fun i => (i.zero, i.size, i.bytes)) = some (some (.int .u16 0), 1, 2) := by kernel_rfl
theorem isAggL (w : World) : (isAgg 22).run Tryz.prog w = .ok false w := run_isAgg_plain Tryz.underlying22 rfl w
theorem isAggI (w : World) : (isAgg 3).run Tryz.prog w = .ok false w := run_isAgg_plain Tryz.underlying3 rfl w
theorem isAggE (w : World) : (isAgg 24).run Tryz.prog w = .ok false w := run_isAgg_plain Tryz.underlying24 rfl w
/-- The three results' boxes. -/
def R3 (n : Nat) (a b c : Value) (W : World) : Prop := Blk W n 22 #[a] ∧ Blk W (n + 1) 3 #[b] ∧ Blk W (n + 2) 24 #[c]
theorem r3_res {n : Nat} {a b c : Value} {W : World} (h : R3 n a b c W) (tmps : Array Value) (h2 : tmps.getD 2 undef = .pointer (some ⟨n, 0, none⟩)) (h3 : tmps.getD 3 undef = .pointer (some ⟨n + 1, 0, none⟩)) (h4 : tmps.getD 4 undef = .pointer (some ⟨n + 2, 0, none⟩)) :
    (results Tryz.f5 tmps).run Tryz.prog W = .ok (.tuple #[a, b, c]) W :=
  results_ccc rfl tmps W n (n + 1) (n + 2) a b c h2 h3 h4 (loadVar_plain (isAggL W) (h.1.cell 0)) (loadVar_plain (isAggI W) (h.2.1.cell 0)) (loadVar_plain (isAggE W) (h.2.2.cell 0))
def put3 (w : World) (n : Nat) (a b c : Value) : World := ((w.setCell ⟨n, 0, none⟩ a).setCell ⟨n + 1, 0, none⟩ b).setCell ⟨n + 2, 0, none⟩ c
theorem r3_put {n : Nat} {a b c : Value} {W : World} (h : R3 n a b c W) (a' b' c' : Value) : R3 n a' b' c' (put3 W n a' b' c') := by
  obtain ⟨h1, h2, h3⟩ := h
  refine ⟨?_, ?_, ?_⟩
  · exact ((h1.set 0 a').far (p := ⟨n + 1, 0, none⟩) (by show n ≠ n + 1; omega) b').far (p := ⟨n + 2, 0, none⟩) (by show n ≠ n + 2; omega) c'
  · exact ((h2.far (p := ⟨n, 0, none⟩) (by show n + 1 ≠ n; omega) a').set 0 b').far (p := ⟨n + 2, 0, none⟩) (by show n + 1 ≠ n + 2; omega) c'
  · exact ((h3.far (p := ⟨n, 0, none⟩) (by show n + 2 ≠ n; omega) a').far (p := ⟨n + 1, 0, none⟩) (by show n + 2 ≠ n + 1; omega) b').set 0 c'
theorem put3_below {w0 w : World} {B n : Nat} (h : Below B w0 w) (hB : B ≤ n) (a b c : Value) : Below B w0 (put3 w n a b c) :=
  ((h.setCell (p := ⟨n, 0, none⟩) hB a).setCell (p := ⟨n + 1, 0, none⟩) (by show B ≤ n + 1; omega) b).setCell (p := ⟨n + 2, 0, none⟩) (by show B ≤ n + 2; omega) c
theorem put3_keeps (W : World) (n : Nat) (a b c : Value) : KeepsOthers W (put3 W n a b c) :=
  ((KeepsOthers.setCell W ⟨n, 0, none⟩ a).trans (KeepsOthers.setCell _ ⟨n + 1, 0, none⟩ b)).trans (KeepsOthers.setCell _ ⟨n + 2, 0, none⟩ c)
theorem r3_alloc {n : Nat} {a b c : Value} {W : World} (h : R3 n a b c W) (o : Obj) : R3 n a b c (W.alloc o) := ⟨h.1.alloc o, h.2.1.alloc o, h.2.2.alloc o⟩
theorem r3_grown {n : Nat} {a b c : Value} {A W : World} {row : Option Nat} (h : R3 n a b c A) (hg : A.grownBy W row) (hr : ∀ r, row = some r → n + 2 < r) : R3 n a b c W :=
  ⟨(hg.block _ h.1.lt (fun e => by have := hr _ e.symm; omega)).trans h.1, (hg.block _ h.2.1.lt (fun e => by have := hr _ e.symm; omega)).trans h.2.1, (hg.block _ h.2.2.lt (fun e => by have := hr _ e.symm; omega)).trans h.2.2⟩
theorem r3_below {n : Nat} {a b c : Value} {W W' : World} (h : R3 n a b c W) (hb : Below W.heap.size W W') : R3 n a b c W' := ⟨h.1.below hb h.1.lt, h.2.1.below hb h.2.1.lt, h.2.2.below hb h.2.2.lt⟩
def u16s (ys : List Nat) : List Value := ys.map fun z : Nat => Value.int .u16 (z : Int)
/-- The code so far: its box, its array. -/
def Cd (n : Nat) (ys : List Nat) (W : World) : Prop := ∃ g c, Blk W (n + 4) 22 #[.slice (some ⟨g, 0, none⟩) ys.length c] ∧ W.ownsRow (n + 3) 34 1 (.slice (some ⟨g, 0, none⟩) ys.length c) ys.length (u16s ys) ∧ (g = n + 3 ∨ n + 9 ≤ g)
/-- Between two rounds. -/
def PgI (zs : List Nat) (w : World) (pre : List Spl.Bs) (W : World) : Prop := w.heap.size + 9 ≤ W.heap.size ∧ R3 w.heap.size (.slice none 0 0) (.int .i64 0) (.int .i64 0) W ∧ Cd w.heap.size (zs.take pre.length) W ∧ Blk W (w.heap.size + 5) 3 #[.int .i64 (pre.length : Int)] ∧ Below w.heap.size w W
theorem row_below {W W' : World} {base size m : Nat} {e : TypeId} {v : Value} {xs : List Value} (h : W.ownsRow base e size v m xs) (hb : Below W.heap.size W W') : W'.ownsRow base e size v m xs := by
  refine ⟨h.1, h.2.imp id fun ⟨g, cap, cur, e1, hbg, hh, r⟩ => ⟨g, cap, cur, e1, hbg, ?_, r⟩⟩
  exact (hb.block g (Array.getElem?_eq_some_iff.1 hh).1).trans hh
theorem cd_below {n : Nat} {ys : List Nat} {W W' : World} (h : Cd n ys W) (hb : Below W.heap.size W W') : Cd n ys W' := by
  obtain ⟨g, c, h1, h2, h3⟩ := h
  exact ⟨g, c, h1.below hb h1.lt, row_below h2 hb, h3⟩
theorem pgI_own (zs : List Nat) (w : World) {B : Nat} (hB : w.heap.size ≤ B) : Rg.OwnT (w.heap.size + 6) B (PgI zs w) := fun pre A W row ⟨h0, h1, ⟨g, c, h2, h3, h4⟩, h5, h6⟩ hg hr => by
  refine ⟨Nat.le_trans h0 hg.size, ⟨Spl.own_blk h1.1 hg hr (by omega), Spl.own_blk h1.2.1 hg hr (by omega), Spl.own_blk h1.2.2 hg hr (by omega)⟩, ⟨g, c, Spl.own_blk h2 hg hr (by omega), ⟨h3.1, ?_⟩, h4⟩, Spl.own_blk h5 hg hr (by omega), Spl.own_below h6 hg hr (by omega) hB h6.size⟩
  refine h3.2.imp id fun ⟨g2, cap, cur, e1, hb, hh, r⟩ => ⟨g2, cap, cur, e1, hb, ?_, r⟩
  have eg : g = g2 := by cases e1; rfl
  exact (show Blk W g2 34 cur from Spl.own_blk (show Blk A g2 34 cur from hh) hg hr (by omega))
theorem row_ne {W : World} {base n lb : Nat} {g c : Nat} {xs : List Value} {u : Value} {t : TypeId} (ht : t ≠ 34) (h : W.ownsRow base 34 1 (.slice (some ⟨g, 0, none⟩) n c) n xs) (hb : Blk W lb t #[u]) : g ≠ lb ∧ base ≤ g ∧ g < W.heap.size := by
  rcases h.2 with ⟨h0, _⟩ | ⟨g', cap, cur, e1, hg, hh, _⟩
  · cases h0
  · cases e1
    refine ⟨fun e => ?_, hg, (Array.getElem?_eq_some_iff.1 hh).1⟩
    subst e
    rw [show W.heap[g]? = _ from hb] at hh
    cases hh
    exact ht rfl
/-- A round with a line: its halfword is appended, the number counts. -/
theorem cd_app {n : Nat} {ys : List Nat} {z : Nat} {W w8 : World} {g c g' c' k : Nat} {o : Obj} (hn9 : n + 9 ≤ W.heap.size)
    (h3 : R3 n (.slice none 0 0) (.int .i64 0) (.int .i64 0) W) (h4 : Blk W (n + 4) 22 #[.slice (some ⟨g, 0, none⟩) ys.length c]) (h5 : W.ownsRow (n + 3) 34 1 (.slice (some ⟨g, 0, none⟩) ys.length c) ys.length (u16s ys)) (hg9 : g = n + 3 ∨ n + 9 ≤ g) (h7 : Blk W (n + 5) 3 #[.int .i64 (k : Int)])
    (k2 : w8.ownsRow (n + 3) 34 1 (.slice (some ⟨g', 0, none⟩) (ys.length + 1) c') (ys.length + 1) (u16s ys ++ [.int .u16 (z : Int)])) (k3 : (W.alloc o).grownBy w8 (some g)) (k4 : some g' = some g ∨ g' = (W.alloc o).heap.size) (q : Value) :
    (Blk w8 (n + 4) 22 #[.slice (some ⟨g, 0, none⟩) ys.length c] ∧ Blk (w8.setCell ⟨n + 4, 0, none⟩ (.slice (some ⟨g', 0, none⟩) (ys.length + 1) c')) (n + 5) 3 #[.int .i64 (k : Int)]) ∧
    ∀ Wf, Wf = (w8.setCell ⟨n + 4, 0, none⟩ (.slice (some ⟨g', 0, none⟩) (ys.length + 1) c')).setCell ⟨n + 5, 0, none⟩ q →
      KeepsOthers W Wf ∧ Spl.KB (n + 6) W Wf ∧ W.heap.size ≤ Wf.heap.size ∧ R3 n (.slice none 0 0) (.int .i64 0) (.int .i64 0) Wf ∧ Cd n (ys ++ [z]) Wf ∧ Blk Wf (n + 5) 3 #[q] ∧ ∀ w0, Below n w0 W → Below n w0 Wf := by
  obtain ⟨n1, n2, n3⟩ := row_ne (by decide) h5 h4
  obtain ⟨n4, _, _⟩ := row_ne (by decide) h5 h7
  have hs8 : W.heap.size + 1 ≤ w8.heap.size := by have := k3.size; simpa using this
  have b8 : Blk w8 (n + 4) 22 #[.slice (some ⟨g, 0, none⟩) ys.length c] := (k3.block _ (by simp; omega) (fun e => n1 (by cases e; rfl))).trans (h4.alloc o)
  have d8 : Blk w8 (n + 5) 3 #[.int .i64 (k : Int)] := (k3.block _ (by simp; omega) (fun e => n4 (by cases e; rfl))).trans (h7.alloc o)
  obtain ⟨m1, m2, m3⟩ := row_ne (by decide) k2 b8
  obtain ⟨m4, _, _⟩ := row_ne (by decide) k2 d8
  have hga := grownBy_setCell' w8 (n + 4) (.slice (some ⟨g', 0, none⟩) (ys.length + 1) c')
  have d9 := d8.far (p := ⟨n + 4, 0, none⟩) (by show n + 5 ≠ n + 4; omega) (.slice (some ⟨g', 0, none⟩) (ys.length + 1) c')
  refine ⟨⟨b8, d9⟩, fun Wf hWf => ?_⟩
  have hgb := grownBy_setCell' (w8.setCell ⟨n + 4, 0, none⟩ (.slice (some ⟨g', 0, none⟩) (ys.length + 1) c')) (n + 5) q
  rw [← hWf] at hgb
  have hs9 := hga.size
  have hs10 := hgb.size
  have hkeep : ∀ (j : Nat) (o2 : Obj), j ≠ n + 4 → j ≠ n + 5 → j ≠ g → W.heap[j]? = some o2 → Wf.heap[j]? = some o2 := fun j o2 e1 e2 e3 hj => by
    have hlt := (Array.getElem?_eq_some_iff.1 hj).1
    rw [hgb.block j (by omega) (fun e => e2 (by cases e; rfl)), hga.block j (by omega) (fun e => e1 (by cases e; rfl)), k3.block j (by simp; omega) (fun e => e3 (by cases e; rfl)), Below.heap_alloc W o j hlt]
    exact hj
  refine ⟨⟨by omega, fun j o2 hj hc => ?_⟩, fun j h1 h2 => ?_, by omega, ?_, ⟨g', c', ?_, ?_, ?_⟩, ?_, fun w0 hb => ?_⟩
  · refine hkeep j o2 (fun e => ?_) (fun e => ?_) (fun e => ?_) hj
    · subst e; rw [show W.heap[n + 4]? = _ from h4] at hj; cases hj; cases hc
    · subst e; rw [show W.heap[n + 5]? = _ from h7] at hj; cases hj; cases hc
    · subst e
      rcases h5.2 with ⟨h0, _⟩ | ⟨g2, cap, cur, e1, _, hh, _⟩
      · cases h0
      · cases e1; rw [hh] at hj; cases hj; cases hc
  · obtain ⟨o2, ho2⟩ : ∃ o2, W.heap[j]? = some o2 := ⟨_, Array.getElem?_eq_getElem (by omega)⟩
    rw [hkeep j o2 (by omega) (by omega) (by omega) ho2, ho2]
  · exact r3_grown (r3_grown (r3_grown (r3_alloc h3 o) k3 (fun r e => by cases e; omega)) hga (fun r e => by cases e; omega)) hgb (fun r e => by cases e; omega)
  · rw [hWf, List.length_append]
    exact (b8.set 0 _).far (p := ⟨n + 5, 0, none⟩) (by show n + 4 ≠ n + 5; omega) q
  · rw [List.length_append]
    have hu : u16s (ys ++ [z]) = u16s ys ++ [.int .u16 (z : Int)] := by simp [u16s]
    rw [hu]
    exact (k2.kept hga (.inr (by simp only [Value.ownBlock]; exact fun e => m1 (by cases e; rfl)))).kept hgb (.inr (by simp only [Value.ownBlock]; exact fun e => m4 (by cases e; rfl)))
  · rcases k4 with h | h
    · cases h; exact hg9
    · rw [h]; right; simp; omega
  · rw [hWf]; exact d9.set 0 q
  · exact (((hb.alloc (by omega) o).grown k3 (by simp; omega) (fun k e => by cases e; omega)).grown hga (by omega) (fun k e => by cases e; omega)).grown hgb (by omega) (fun k e => by cases e; omega)
/-- The world behind Program's own boxes. -/
def pgW (w : World) : World := (((((w.alloc (.cells #[.slice none 0 0] 22)).alloc (.cells #[.int .i64 0] 3)).alloc (.cells #[.int .i64 0] 24)).alloc (.cells #[] 34)).alloc (.cells #[.slice (some ⟨w.heap.size + 3, 0, none⟩) 0 0] 22)).alloc (.cells #[.int .i64 0] 3)
theorem pgW_facts (w : World) : (pgW w).heap.size = w.heap.size + 6 ∧ R3 w.heap.size (.slice none 0 0) (.int .i64 0) (.int .i64 0) (pgW w) ∧ Cd w.heap.size [] (pgW w) ∧ Blk (pgW w) (w.heap.size + 5) 3 #[.int .i64 0] ∧ Below w.heap.size w (pgW w) := by
  have h0 := Blk.new w 22 #[.slice none 0 0]
  have h1 := Blk.new (w.alloc (.cells #[.slice none 0 0] 22)) 3 #[.int .i64 0]
  rw [World.size_alloc] at h1
  have h2 := Blk.new ((w.alloc (.cells #[.slice none 0 0] 22)).alloc (.cells #[.int .i64 0] 3)) 24 #[.int .i64 0]
  rw [World.size_alloc, World.size_alloc] at h2
  have h3 : R3 w.heap.size (.slice none 0 0) (.int .i64 0) (.int .i64 0) (((w.alloc (.cells #[.slice none 0 0] 22)).alloc (.cells #[.int .i64 0] 3)).alloc (.cells #[.int .i64 0] 24)) := ⟨(h0.alloc _).alloc _, h1.alloc _, h2⟩
  have hb : Below w.heap.size w (((w.alloc (.cells #[.slice none 0 0] 22)).alloc (.cells #[.int .i64 0] 3)).alloc (.cells #[.int .i64 0] 24)) := (((Below.refl _ w).alloc (Nat.le_refl _) _).alloc (by simp) _).alloc (by simp; omega) _
  have hs : (((w.alloc (.cells #[.slice none 0 0] 22)).alloc (.cells #[.int .i64 0] 3)).alloc (.cells #[.int .i64 0] 24)).heap.size = w.heap.size + 3 := by simp
  unfold pgW
  generalize ((w.alloc (.cells #[.slice none 0 0] 22)).alloc (.cells #[.int .i64 0] 3)).alloc (.cells #[.int .i64 0] 24) = w1 at *
  have o1 := own_empty w1 (Nat.le_refl _) 34 1
  rw [hs] at o1
  have b4 := (Blk.new (w1.alloc (.cells #[] 34)) 22 #[.slice (some ⟨w.heap.size + 3, 0, none⟩) 0 0]).alloc (.cells #[.int .i64 0] 3)
  rw [World.size_alloc, hs] at b4
  have b5 := Blk.new ((w1.alloc (.cells #[] 34)).alloc (.cells #[.slice (some ⟨w.heap.size + 3, 0, none⟩) 0 0] 22)) 3 #[.int .i64 0]
  rw [World.size_alloc, World.size_alloc, hs] at b5
  exact ⟨by simp [hs], r3_alloc (r3_alloc (r3_alloc h3 _) _) _, ⟨w.heap.size + 3, 0, b4, (o1.alloc _).alloc _, .inl rfl⟩, b5, ((hb.alloc hb.size _).alloc (by simp; omega) _).alloc (by simp; omega) _⟩
theorem keeps_below {n : Nat} {A B : World} (h : Below n A B) (hn : n = A.heap.size) : KeepsOthers A B := ⟨hn ▸ h.size, fun j o hj _ => (h.block j (by rw [hn]; exact (Array.getElem?_eq_some_iff.1 hj).1)).trans hj⟩
theorem kb_below {n B : Nat} {W W' : World} (h : Below n W W') (hn : B + 2 < n) : Spl.KB B W W' := fun k _ h2 => h.block k (by omega)
end Go.Proofs.YtnngnfajmncjpaaGreatDoor.Tx
