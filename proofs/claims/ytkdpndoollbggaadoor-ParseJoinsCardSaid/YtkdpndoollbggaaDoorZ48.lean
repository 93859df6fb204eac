/- DERIVED. PaJo in one text. By an AI agent. -/
import Derived.Test.YtkdpndoollbggaaDoorZ43
import Derived.Test.YtkdpndoollbggaaDoorZ44
import Derived.Test.YtkdpndoollbggaaDoorZ47
import Derived.Deep.DeepCutAuto
/- DERIVED. The walk of ParseJoins. By an AI agent. -/
namespace Go.Proofs.YtkdpndoollbggaaDoor.Pa
open Go Go.ChangeShapes Go.WideShapes Go.ChangeAt Go.RowKit Lx Args
set_option linter.unusedVariables false
set_option linter.unusedSimpArgs false
theorem again2 {l : List Tk} {s' : Bs} {zs : List Tr} {r : List Tk} (h1 : Rd numV (.stmts []) 0 l (.ok zs r)) (he : (wordsL s').er = 0) (hst : strip (wordsL s').l = strip l) :
    (∀ a er, ¬ BadR ProgR (wordsL s') a er) ∧ ∀ ys r', Rd numV (.stmts []) 0 (wordsL s').l (.ok ys r') → skL zs = skL ys := by
  have key : ∀ o, Rd numV (.stmts []) 0 (wordsL s').l o → ∃ ys' r', o = .ok ys' r' ∧ skL zs = skL ys' := fun o ho => by
    obtain ⟨f, hf⟩ := h1.at_
    obtain ⟨g, hg⟩ := ho.at_
    obtain ⟨ys', r', e, h2, _⟩ := same_programs (sl_strip hst.symm) hf hg
    exact ⟨ys', r', e, h2⟩
  refine ⟨fun a er hb => ?_, fun ys r' h => ?_⟩
  · rcases hb with ⟨h, _⟩ | ⟨_, h | ⟨xs, t, r', h, hk, _⟩⟩
    · exact h he
    · obtain ⟨_, _, e, _⟩ := key _ h; cases e
    · obtain ⟨zs', a', _, _, e, r2, hr, hz⟩ := h
      simp only [List.cons.injEq] at hr
      obtain ⟨rfl, _⟩ := hr
      exact hk hz
  · obtain ⟨ys', r2, e, h3⟩ := key _ h
    simp only [Out.ok.injEq] at e
    obtain ⟨rfl, _⟩ := e
    exact h3
theorem two_rd {u l2 r r2 : List Tk} {e : Tk} (he : e.k = 0) (hu : ∀ t ∈ u, t.k ≠ 0) {ys zs : List Tr} (h1 : Rd numV (.stmts []) 0 (u ++ [e]) (.ok ys r)) (h2 : Rd numV (.stmts []) 0 l2 (.ok zs r2)) : Rd numV (.stmts []) 0 (u ++ l2) (.ok (ys ++ zs) r2) := by
  obtain ⟨f, hf⟩ := h1.at_
  obtain ⟨g, hg⟩ := h2.at_
  have ha := stmts_acc numV ys g [] 0 l2
  rw [hg, List.append_nil] at ha
  obtain ⟨k, hk⟩ := stmts_app numV he l2 f [] ys u r 0 hu hf g _ ha
  exact ⟨k, fun q hq => pF_mono numV k q hq _ _ _ _ hk⟩
theorem joins {s t : Bs} (hl : s.length + (t.length + 1) ≤ 20000) (hs : (wordsL s).er = 0) (ht : (wordsL t).er = 0) {ys zs : List Tr} {r r2 : List Tk} (h1 : Rd numV (.stmts []) 0 (wordsL s).l (.ok ys r)) (h2 : Rd numV (.stmts []) 0 (wordsL t).l (.ok zs r2)) :
    (∀ p er, BadR ProgR (wordsL (s ++ 10 :: t)) p er → er = 150) ∧ ((wordsL (s ++ 10 :: t)).er = 0 → ∀ qs r', Rd numV (.stmts []) 0 (wordsL (s ++ 10 :: t)).l (.ok qs r') → skL (ys ++ zs) = skL qs) := by
  obtain ⟨w1, w2⟩ := words_two s t hl hs ht
  rcases Nat.lt_or_ge 4000 ((wordsL s).l.length - 1 + (wordsL t).l.length) with h | h
  · have he := w2 h
    refine ⟨fun p er hb => ?_, fun h0 => by rw [he] at h0; cases h0⟩
    rcases hb with ⟨_, _, rfl⟩ | ⟨h0, _⟩
    · exact he
    · rw [he] at h0; cases h0
  · obtain ⟨he, hst⟩ := w1 h
    obtain ⟨u, e, hue, hek, huk⟩ := words_et hs
    have hdl : (wordsL s).l.dropLast = u := by rw [hue, List.dropLast_concat]
    rw [hdl, ← strip_app] at hst
    rw [hue] at h1
    obtain ⟨c1, c2⟩ := again2 (two_rd hek huk h1 h2) he hst
    exact ⟨fun p er hb => absurd hb (c1 p er), fun _ => c2⟩
theorem oneC {N : Nat → Prop} {w : World} : ∀ {l : List Tr} {css : List (List Value)}, TsIn N w l css → ∀ u ∈ css.flatten, u.oneCell' = true
  | [], _, h, u, hu => by unfold TsIn at h; subst h; simp at hu
  | x :: l, _, h, u, hu => by
    unfold TsIn at h
    obtain ⟨c, r, rfl, h2, h3⟩ := h
    rw [List.flatten_cons, List.mem_append] at hu
    rcases hu with hu | hu
    · obtain ⟨k, a, s, n, A, la, cA, B, lb, cB, rfl⟩ := tIn_cells h2
      simp only [ndC, List.mem_cons, List.not_mem_nil, or_false] at hu
      rcases hu with rfl | rfl | rfl | rfl | rfl | rfl <;> rfl
    · exact oneC h3 u hu
/-- What Parse hands back, good or bad. -/
def RdW (s : ByteArray) (w : World) (e : Ending) (w' : World) : Prop :=
  ∃ k a sx n A la cA B lb cB p er, e = .returned (.tuple #[.agg #[.int .i64 (k : Nat), .string ⟨(sx : Bs).toArray⟩, .int .u32 (n : Nat), .int .i64 (a : Nat), .slice A la cA, .slice B lb cB], .int .i64 (p : Nat), .int .i64 (er : Nat)]) ∧ Below w.heap.size w w' ∧
    ((er = 0 ∧ (wordsL s.data.toList).er = 0 ∧ ∃ zs r, Rd numV (.stmts []) 0 (wordsL s.data.toList).l (.ok zs r) ∧ TIn (fun b => w.heap.size ≤ b) w' (.mk 13 a [] 0 [] zs) (ndC k a sx n A la cA B lb cB)) ∨
     (er ≠ 0 ∧ la = 0 ∧ BadR ProgR (wordsL s.data.toList) p er))
theorem p_any (s : ByteArray) (w : World) : Calls Tryd.prog 6 #[.string s] w (RdW s w) := (p_program s w).mono fun e w' h => by
  rcases h with ⟨k, a, sx, n, A, la, cA, B, lb, cB, x, t, r, rfl, h1, h2, h3, hT, hb⟩ | ⟨a, er, rfl, hbad, hb⟩
  · obtain ⟨zs, a', hx, hRd, _⟩ := h2
    simp only [List.cons.injEq, and_true] at hx
    subst hx
    obtain ⟨rfl, rfl, rfl, rfl, rfl, rfl, _⟩ := tIn_parts hT
    exact ⟨_, _, _, _, _, _, _, _, _, _, 0, 0, rfl, hb, .inl ⟨rfl, h1, zs, _, hRd, hT⟩⟩
  · obtain ⟨_, her⟩ := bad_place hbad
    exact ⟨0, 0, [], 0, none, 0, 0, none, 0, 0, a, er, rfl, hb, .inr ⟨by rcases her with rfl | rfl <;> decide, rfl, hbad⟩⟩
/-- Two rows of trees as one program. -/
theorem x_tree {wz w v : World} {e : TypeId} {g c gX : Nat} {ys zs : List Tr} {css ds : List (List Value)} {N M : Nat → Prop} (hE : Below wz.heap.size wz v) (h1 : TsIn N wz ys css) (h2 : TsIn M wz zs ds) (hl : ys.length + zs.length ≤ 100000)
    (ho : w.ownsRow wz.heap.size e 6 (.slice (some ⟨g, 0, none⟩) (0 + ys.length + zs.length) c) (0 + ys.length + zs.length) (([] ++ css.flatten) ++ ds.flatten)) (hu : Upd (fun b => b = gX) w v) (hg : g ≠ gX) :
    TIn (fun _ => True) v (.mk 13 0 [] 0 [] (ys ++ zs)) (ndC 13 0 [] 0 (some ⟨g, 0, none⟩) (0 + ys.length + zs.length) c none 0 0) := by
  unfold TIn
  refine ⟨some ⟨g, 0, none⟩, c, none, 0, ?_, by rw [List.length_append]; exact hl, by simp, Lies.nil _ _, fun _ _ _ _ => trivial, css ++ ds, ?_, fun _ _ _ _ => trivial, ?_⟩
  · rw [List.length_append, Nat.zero_add]; rfl
  · have := lies_own ho
    rw [List.nil_append, ← List.flatten_append] at this
    exact hu.lies this fun b o e2 _ hx => by cases e2; exact hg hx
  · have hF : Upd (fun _ => False) wz v := Upd.of_below hE _
    exact tsIn_app ((h1.upd hF fun _ _ h => h).mono fun _ _ _ => trivial) ((h2.upd hF fun _ _ h => h).mono fun _ _ _ => trivial)
set_option maxRecDepth 100000 in
set_option maxHeartbeats 16000000 in
theorem parseJoins.walk (W : World) (s : ByteArray) (hs : s.size ≤ 140737488351232) (t : ByteArray) (ht : t.size ≤ 140737488351232) : Calls Tryd.prog 5 #[.string s, .string t] W fun e w' => e = .returned (.bool true) ∧ Below W.heap.size W w' := by
  have H5 := Lib.hid lives
  have hsl := size_len s
  have htl := size_len t
  by_cases hfit : 20000 < s.size + 1 + t.size
  · have q1 : decide (20000 - (t.size : Int) < (s.size : Int) + 1) = true := by simp; omega
    go_enter Tryd.func5, Tryd.ntmps5
    go_wp2_with fail
    refine (H5.out _).mono ?_
    rintro e w3 ⟨rfl, b3⟩
    have B3 := Lib.hid b3
    clear b3
    go_wp2_with fail
    go_ret
    exact ⟨rfl, B3.out⟩
  have q1 : decide (20000 - (t.size : Int) < (s.size : Int) + 1) = false := by simp; omega
  have hz1 : (s ++ ⟨#[10]⟩).size = s.size + 1 := by rw [ByteArray.size_append]; rfl
  have hz2 : (s ++ ⟨#[10]⟩ ++ t).size = s.size + 1 + t.size := by rw [ByteArray.size_append, hz1]
  have q2 : ¬ (9223372036854775807 < s.size + 1) := by omega
  have q3 : ¬ (9223372036854775807 < s.size + 1 + t.size) := by omega
  have h3s : (s ++ ⟨#[10]⟩ ++ t).data.toList = s.data.toList ++ 10 :: t.data.toList := by simp
  have H3S := Lib.hid h3s
  have HA := Lib.hid (p_any s); have HB := Lib.hid (p_any t); have HC := Lib.hid (p_any (s ++ ⟨#[10]⟩ ++ t))
  clear h3s
  go_enter Tryd.func5, Tryd.ntmps5
  go_wp2_with fail
  refine (HA.out _).mono ?_
  rintro e w1 ⟨k1, a1, sx1, n1, A1, la1, cA1, B1, lb1, cB1, p1, er1, rfl, hb1, hc1⟩
  obtain ⟨x1, hx1⟩ : ∃ x, w1.alloc (.cells #[.int .i64 (k1 : Int), .string ⟨sx1.toArray⟩, .int .u32 (n1 : Int), .int .i64 (a1 : Int), .slice A1 la1 cA1, .slice B1 lb1 cB1] 27) = x := ⟨_, rfl⟩
  have hbx1 : Below w1.heap.size w1 x1 := by rw [← hx1]; exact (Below.refl _ _).alloc (Nat.le_refl _) _
  have HK1 := Lib.hid (show Blk x1 w1.heap.size 27 #[.int .i64 (k1 : Int), .string ⟨sx1.toArray⟩, .int .u32 (n1 : Int), .int .i64 (a1 : Int), .slice A1 la1 cA1, .slice B1 lb1 cB1] by rw [← hx1]; exact Blk.new _ _ _)
  have HS1 := Lib.hid (hb1.trans (hbx1.mono hb1.size))
  have HF1 := Lib.hid (hbx1)
  have HD1 := Lib.hid hc1
  have HX1 := Lib.hid hx1
  clear hb1 hc1 hx1 hbx1
  go_wp2_with fail
  rw [HX1.out]
  refine (HB.out _).mono ?_
  rintro e w2 ⟨k2, a2, sx2, n2, A2, la2, cA2, B2, lb2, cB2, p2, er2, rfl, hb2, hc2⟩
  obtain ⟨x2, hx2⟩ : ∃ x, w2.alloc (.cells #[.int .i64 (k2 : Int), .string ⟨sx2.toArray⟩, .int .u32 (n2 : Int), .int .i64 (a2 : Int), .slice A2 la2 cA2, .slice B2 lb2 cB2] 27) = x := ⟨_, rfl⟩
  have hbx2 : Below w2.heap.size w2 x2 := by rw [← hx2]; exact (Below.refl _ _).alloc (Nat.le_refl _) _
  have HK2 := Lib.hid (show Blk x2 w2.heap.size 27 #[.int .i64 (k2 : Int), .string ⟨sx2.toArray⟩, .int .u32 (n2 : Int), .int .i64 (a2 : Int), .slice A2 la2 cA2, .slice B2 lb2 cB2] by rw [← hx2]; exact Blk.new _ _ _)
  have HS2 := Lib.hid (hb2.trans (hbx2.mono hb2.size))
  have HF2 := Lib.hid (hbx2)
  have HD2 := Lib.hid hc2
  have HX2 := Lib.hid hx2
  clear hb2 hc2 hx2 hbx2
  go_wp2_with fail
  rw [HX2.out]
  refine (HC.out _).mono ?_
  rintro e w3 ⟨k3, a3, sx3, n3, A3, la3, cA3, B3, lb3, cB3, p3, er3, rfl, hb3, hc3⟩
  obtain ⟨x3, hx3⟩ : ∃ x, w3.alloc (.cells #[.int .i64 (k3 : Int), .string ⟨sx3.toArray⟩, .int .u32 (n3 : Int), .int .i64 (a3 : Int), .slice A3 la3 cA3, .slice B3 lb3 cB3] 27) = x := ⟨_, rfl⟩
  have hbx3 : Below w3.heap.size w3 x3 := by rw [← hx3]; exact (Below.refl _ _).alloc (Nat.le_refl _) _
  have HK3 := Lib.hid (show Blk x3 w3.heap.size 27 #[.int .i64 (k3 : Int), .string ⟨sx3.toArray⟩, .int .u32 (n3 : Int), .int .i64 (a3 : Int), .slice A3 la3 cA3, .slice B3 lb3 cB3] by rw [← hx3]; exact Blk.new _ _ _)
  have HS3 := Lib.hid (hb3.trans (hbx3.mono hb3.size))
  have HF3 := Lib.hid (hbx3)
  have HD3 := Lib.hid hc3
  have HX3 := Lib.hid hx3
  clear hb3 hc3 hx3 hbx3
  have HALL := Lib.hid (show Below W.heap.size W x3 from (HS1.out.trans (HS2.out.mono HS1.out.size)).trans (HS3.out.mono (HS1.out.trans (HS2.out.mono HS1.out.size)).size))
  by_cases z1 : er1 = 0
  rotate_left
  · have n1 : ((er1 : Int) != 0) = true := by simp; omega
    go_wp2_with fail
    rw [HX3.out]
    refine (H5.out _).mono ?_
    rintro e w9 ⟨rfl, b9⟩
    have B9 := Lib.hid (HALL.out.trans (b9.mono HALL.out.size))
    clear b9
    go_wp2_with fail
    go_ret
    exact ⟨rfl, B9.out⟩
  subst z1
  by_cases z2 : er2 = 0
  rotate_left
  · have n2 : ((er2 : Int) != 0) = true := by simp; omega
    go_wp2_with fail
    rw [HX3.out]
    refine (H5.out _).mono ?_
    rintro e w9 ⟨rfl, b9⟩
    have B9 := Lib.hid (HALL.out.trans (b9.mono HALL.out.size))
    clear b9
    go_wp2_with fail
    go_ret
    exact ⟨rfl, B9.out⟩
  subst z2
  obtain ⟨h1, ys, r1, hR1, hT1⟩ : (wordsL s.data.toList).er = 0 ∧ ∃ zs r, Rd numV (.stmts []) 0 (wordsL s.data.toList).l (.ok zs r) ∧ TIn (fun b => W.heap.size ≤ b) w1 (.mk 13 a1 [] 0 [] zs) (ndC k1 a1 sx1 n1 A1 la1 cA1 B1 lb1 cB1) := by
    rcases HD1.out with ⟨_, h⟩ | ⟨h, _⟩
    · exact h
    · exact absurd rfl h
  obtain ⟨h2, zs, r2, hR2, hT2⟩ : (wordsL t.data.toList).er = 0 ∧ ∃ zs r, Rd numV (.stmts []) 0 (wordsL t.data.toList).l (.ok zs r) ∧ TIn (fun b => x1.heap.size ≤ b) w2 (.mk 13 a2 [] 0 [] zs) (ndC k2 a2 sx2 n2 A2 la2 cA2 B2 lb2 cB2) := by
    rcases HD2.out with ⟨_, h⟩ | ⟨h, _⟩
    · exact h
    · exact absurd rfl h
  obtain ⟨j1, j2⟩ := joins (by omega) h1 h2 hR1 hR2
  rw [← H3S.out] at j1 j2
  by_cases z3 : er3 = 0
  rotate_left
  · obtain ⟨hl0, he⟩ : la3 = 0 ∧ er3 = 150 := by
      rcases HD3.out with ⟨h, _⟩ | ⟨_, h, hb⟩
      · exact absurd h z3
      · exact ⟨h, j1 _ _ hb⟩
    subst hl0
    subst he
    clear hT1 hT2 hR1 hR2 j1 j2 h1 h2
    go_wp2_with fail
    rw [HX3.out]
    refine (H5.out _).mono ?_
    rintro e w9 ⟨rfl, b9⟩
    have B9 := Lib.hid (HALL.out.trans (b9.mono HALL.out.size))
    clear b9
    go_wp2_with fail
    go_ret
    exact ⟨rfl, B9.out⟩
  subst z3
  obtain ⟨h3, qs, r3, hR3, hT3⟩ : (wordsL (s ++ ⟨#[10]⟩ ++ t).data.toList).er = 0 ∧ ∃ zs r, Rd numV (.stmts []) 0 (wordsL (s ++ ⟨#[10]⟩ ++ t).data.toList).l (.ok zs r) ∧ TIn (fun b => x2.heap.size ≤ b) w3 (.mk 13 a3 [] 0 [] zs) (ndC k3 a3 sx3 n3 A3 la3 cA3 B3 lb3 cB3) := by
    rcases HD3.out with ⟨_, h⟩ | ⟨h, _⟩
    · exact h
    · exact absurd rfl h
  have hsk := j2 h3 qs r3 hR3
  obtain ⟨rfl, rfl, rfl, _, rfl, rfl, hy1, _, _, css, hL1, hS1⟩ := tIn_parts hT1
  obtain ⟨rfl, rfl, rfl, _, rfl, rfl, hy2, _, _, ds, hL2, hS2⟩ := tIn_parts hT2
  obtain ⟨rfl, rfl, rfl, _, rfl, rfl, hy3, _⟩ := tIn_parts hT3
  clear hR1 hR2 hR3 j1 j2 h1 h2 h3 HD1 HD2 HD3 HA HB HC H3S
  have hlq : ys.length + zs.length = qs.length := by
    have := skL_len hsk
    rw [List.length_append] at this; omega
  have HLQ := Lib.hid hlq
  clear hlq
  go_upto_region 10 with fail
  rw [show w3.alloc (.cells #[.int .i64 13, .string ⟨#[]⟩, .int .u32 0, .int .i64 (a3 : Int), .slice A3 qs.length cA3, .slice B3 0 cB3] 27) = x3 from HX3.out]
  have l1 := HK1.out.lt
  have l2 := HK2.out.lt
  have l3 := HK3.out.lt
  have s2 := HS2.out.size
  have s3 := HS3.out.size
  have hdr : Below x3.heap.size x3 x3.drew := below_drewN (Below.refl _ _) 1
  have hwz : Below W.heap.size W x3.drew := HALL.out.trans (hdr.mono HALL.out.size)
  have c1 : Blk x3.drew w1.heap.size 27 #[.int .i64 13, .string ⟨#[]⟩, .int .u32 0, .int .i64 (a1 : Int), .slice A1 ys.length cA1, .slice B1 0 cB1] := ((HK1.out.below HS2.out l1).below HS3.out (by omega)).drew
  have c2 : Blk x3.drew w2.heap.size 27 #[.int .i64 13, .string ⟨#[]⟩, .int .u32 0, .int .i64 (a2 : Int), .slice A2 zs.length cA2, .slice B2 0 cB2] := (HK2.out.below HS3.out l2).drew
  have c3 : Blk x3.drew w3.heap.size 27 #[.int .i64 13, .string ⟨#[]⟩, .int .u32 0, .int .i64 (a3 : Int), .slice A3 qs.length cA3, .slice B3 0 cB3] := HK3.out.drew
  have b12 : Below w1.heap.size w1 x2 := HF1.out.trans (HS2.out.mono HF1.out.size)
  have b13 : Below w1.heap.size w1 x3.drew := (b12.trans (HS3.out.mono b12.size)).trans (hdr.mono (b12.trans (HS3.out.mono b12.size)).size)
  have b22 : Below w2.heap.size w2 x3.drew := (HF2.out.trans (HS3.out.mono HF2.out.size)).trans (hdr.mono (HF2.out.trans (HS3.out.mono HF2.out.size)).size)
  have b33 : Below w3.heap.size w3 x3.drew := HF3.out.trans (hdr.mono HF3.out.size)
  have t1 : TsIn _ x3.drew ys css := hS1.upd (Upd.of_below b13 fun _ => False) fun _ _ h => h
  have t2 : TsIn _ x3.drew zs ds := hS2.upd (Upd.of_below b22 fun _ => False) fun _ _ h => h
  have t3 : TIn _ x3.drew (.mk 13 a3 [] 0 [] qs) _ := hT3.upd (Upd.of_below b33 fun _ => False) fun _ _ h => h
  have m1 := hL1.below b13
  have m2 := hL2.below b22
  obtain ⟨i0, hi, hz⟩ := Option.map_eq_some_iff.1 infoNd
  have hz0 := congrArg (·.1) hz; have hz1' := congrArg (·.2.1) hz; have hz2' := congrArg (·.2.2) hz
  have HI := Lib.hid hi; have HZ0 := Lib.hid hz0; have HZ1 := Lib.hid hz1'; have HZ2 := Lib.hid hz2'
  obtain ⟨wz, hwzz⟩ : ∃ wz, x3.drew = wz := ⟨_, rfl⟩
  have kl : w1.heap.size < x3.drew.heap.size ∧ w2.heap.size < x3.drew.heap.size ∧ w3.heap.size < x3.drew.heap.size := ⟨c1.lt, c2.lt, c3.lt⟩
  rw [hwzz] at hwz c1 c2 c3 t1 t2 t3 m1 m2 kl
  have HSS : Hid (∀ v, Below wz.heap.size wz v → v.cell? ⟨w1.heap.size, 4, none⟩ = some (.slice A1 ys.length cA1) ∧ v.cell? ⟨w2.heap.size, 4, none⟩ = some (.slice A2 zs.length cA2)) := Lib.hid fun v hv => ⟨(c1.below hv kl.1).cell 4, (c2.below hv kl.2.1).cell 4⟩
  have HC3 := Lib.hid c3; have HT1 := Lib.hid t1; have HT2 := Lib.hid t2; have HT3 := Lib.hid t3; have HM1 := Lib.hid m1; have HM2 := Lib.hid m2; have HWZ := Lib.hid hwz; have HSK := Lib.hid hsk
  have HQ1 := Lib.hid (tsIn_len t1).2; have HQ2 := Lib.hid (tsIn_len t2).2; have HO1 := Lib.hid (oneC t1); have HO2 := Lib.hid (oneC t2)
  clear hT1 hT2 hT3 hL1 hS1 hL2 hS2 hi hz hz0 hz1' hz2' c1 c2 c3 t1 t2 t3 m1 m2 hwz hsk b12 b13 b22 b33 HK1 HK2 HK3 HS1 HS2 HS3 HF1 HF2 HF3 HX1 HX2 HX3 l1 l2 l3 s2 s3 hdr HALL
  refine wp_region_held_drew (S := fun v => v.cell? ⟨w1.heap.size, 4, none⟩ = some (.slice A1 ys.length cA1) ∧ v.cell? ⟨w2.heap.size, 4, none⟩ = some (.slice A2 zs.length cA2)) (by kernel_rfl) (by have h := HSS.out wz (Below.refl _ _); rw [← hwzz] at h; exact h) (fun hH => ?_)
  rw [hwzz]
  clear hwzz hH
  have hS0 := HSS.out wz (Below.refl _ _)
  refine wpAnyH_take (i := 1) (v := ?_) rfl (by kernel_rfl) (by kernel_rfl) (by kernel_rfl) (fun _ _ _ h => h) (Or.inl ⟨by rfl, ?_⟩) hS0 ?_
  rotate_left
  · (intro w hSw; (try dsimp only at hSw); obtain ⟨y4, y5⟩ := hSw; go_simp; try with_reducible rfl)
  (try simp only [Act.put, List.getElem_toArray, List.getElem_cons_succ, List.getElem_cons_zero, List.setIfInBounds_toArray, List.set_cons_zero, List.set_cons_succ])
  refine wpAnyH_take (i := 2) (v := ?_) rfl (by kernel_rfl) (by kernel_rfl) (by kernel_rfl) (fun _ _ _ h => h) (Or.inl ⟨by rfl, ?_⟩) hS0 ?_
  rotate_left
  · (intro w hSw; (try dsimp only at hSw); obtain ⟨y4, y5⟩ := hSw; go_simp; try with_reducible rfl)
  (try simp only [Act.put, List.getElem_toArray, List.getElem_cons_succ, List.getElem_cons_zero, List.setIfInBounds_toArray, List.set_cons_zero, List.set_cons_succ])
  refine wpAnyH_take (i := 4) (v := ?_) rfl (by kernel_rfl) (by kernel_rfl) (by kernel_rfl) (fun _ _ _ h => h) (Or.inl ⟨by rfl, ?_⟩) hS0 ?_
  rotate_left
  · (intro w hSw; (try dsimp only at hSw); obtain ⟨y4, y5⟩ := hSw; go_simp; try with_reducible rfl)
  (try simp only [Act.put, List.getElem_toArray, List.getElem_cons_succ, List.getElem_cons_zero, List.setIfInBounds_toArray, List.set_cons_zero, List.set_cons_succ])
  refine wpAnyH_take (i := 5) (v := ?_) rfl (by kernel_rfl) (by kernel_rfl) (by kernel_rfl) (fun _ _ _ h => h) (Or.inl ⟨by rfl, ?_⟩) hS0 ?_
  rotate_left
  · (intro w hSw; (try dsimp only at hSw); obtain ⟨y4, y5⟩ := hSw; go_simp; try with_reducible rfl)
  (try simp only [Act.put, List.getElem_toArray, List.getElem_cons_succ, List.getElem_cons_zero, List.setIfInBounds_toArray, List.set_cons_zero, List.set_cons_succ])
  clear hS0
  have HEwz := Lib.hid (Below.refl wz.heap.size wz)
  refine wpAnyH_ready (rs := [0, 8]) (by kernel_rfl) (by simp) (AllReadyH.cons rfl (fun K hK => ?_) (AllReadyH.cons rfl (fun K hK => ?_) AllReadyH.nil))
  · go_simp
    have hsz := HEwz.out.size
    obtain ⟨g1a, hg1a⟩ : ∃ g, wz.heap.size = g := ⟨_, rfl⟩
    obtain ⟨v1a, hv1a⟩ : ∃ v, wz.alloc (.cells #[] 27) = v := ⟨_, rfl⟩
    have hbv : Below wz.heap.size wz v1a := by rw [← hv1a]; exact (Below.refl _ _).alloc (Nat.le_refl _) _
    have HEv1a := Lib.hid (HEwz.out.trans (hbv.mono hsz))
    have HOv1a := Lib.hid (show v1a.ownsRow wz.heap.size 27 6 (.slice (some ⟨g1a, 0, none⟩) 0 0) 0 [] by rw [← hv1a, ← hg1a]; exact own_empty wz hsz 27 6)
    rw [hv1a, hg1a]
    refine hK.out _ _ (HSS.out v1a HEv1a.out) (fun hH => ?_)
    clear hK K hH hv1a hbv hsz
    (try simp only [Act.put, List.getElem_toArray, List.getElem_cons_succ, List.getElem_cons_zero, List.setIfInBounds_toArray, List.set_cons_zero, List.set_cons_succ])
    refine wpAnyH_ready (rs := [3, 8]) (by kernel_rfl) (by simp) (AllReadyH.cons rfl (fun K hK => ?_) (AllReadyH.cons rfl (fun K hK => ?_) AllReadyH.nil))
    · refine step_x rfl (.tmp 64) (.tmp 66) 24 rfl wz.heap.size 27 i0 (.agg #[.int .i64 0, .string ⟨#[]⟩, .int .u32 0, .int .i64 0, .slice none 0 0, .slice none 0 0]) 6 88 Tryd.underlying24 HI.out HZ0.out HZ1.out HZ2.out rfl (by decide) g1a 0 0 [] (by simp [Act.eval]) HOv1a.out A1 ys.length cA1 css.flatten (by simp [Act.eval]) HQ1.out (HM1.out.below HEv1a.out) HO1.out (by unfold maxLen; omega) (by omega) HEv1a.out.size ?_
      intro g2a c2a v2a hE
      have hgl := own_at HOv1a.out
      have hsz := HEv1a.out.size
      have hux : Upd (fun b => b = g1a) v1a v2a := (Upd.refl (fun b => b = g1a) v1a).grown hE.grown fun k hk _ => by cases hk; rfl
      have HEv2a := Lib.hid (((Upd.of_below HEv1a.out fun b => b = g1a).trans hux).below (Nat.le_refl wz.heap.size) fun k hk => by omega)
      have HOv2a := Lib.hid hE.own
      refine hK.out _ _ (HSS.out v2a HEv2a.out) (fun hH => ?_)
      clear hK K hH hE hgl hsz hux
      (try simp only [Act.put, List.getElem_toArray, List.getElem_cons_succ, List.getElem_cons_zero, List.setIfInBounds_toArray, List.set_cons_zero, List.set_cons_succ])
      refine wpAnyH_ready (rs := [6, 8]) (by kernel_rfl) (by simp) (AllReadyH.cons rfl (fun K hK => ?_) (AllReadyH.cons rfl (fun K hK => ?_) AllReadyH.nil))
      · refine step_x rfl (.tmp 67) (.tmp 69) 24 rfl wz.heap.size 27 i0 (.agg #[.int .i64 0, .string ⟨#[]⟩, .int .u32 0, .int .i64 0, .slice none 0 0, .slice none 0 0]) 6 88 Tryd.underlying24 HI.out HZ0.out HZ1.out HZ2.out rfl (by decide) g2a (0 + ys.length) c2a ([] ++ css.flatten) (by simp [Act.eval]) HOv2a.out A2 zs.length cA2 ds.flatten (by simp [Act.eval]) HQ2.out (HM2.out.below HEv2a.out) HO2.out (by unfold maxLen; omega) (by omega) HEv2a.out.size ?_
        intro g3a c3a v3a hE
        have hgl := own_at HOv2a.out
        have hsz := HEv2a.out.size
        have hux : Upd (fun b => b = g2a) v2a v3a := (Upd.refl (fun b => b = g2a) v2a).grown hE.grown fun k hk _ => by cases hk; rfl
        have HEv3a := Lib.hid (((Upd.of_below HEv2a.out fun b => b = g2a).trans hux).below (Nat.le_refl wz.heap.size) fun k hk => by omega)
        have HOv3a := Lib.hid hE.own
        refine hK.out _ _ (HSS.out v3a HEv3a.out) (fun hH => ?_)
        clear hK K hH hE hgl hsz hux
        (try simp only [Act.put, List.getElem_toArray, List.getElem_cons_succ, List.getElem_cons_zero, List.setIfInBounds_toArray, List.set_cons_zero, List.set_cons_succ])
        have hS0 := HSS.out v3a HEv3a.out
        refine wpAnyH_take (i := 7) (v := ?_) rfl (by kernel_rfl) (by kernel_rfl) (by kernel_rfl) (fun _ _ _ h => h) (Or.inl ⟨by rfl, ?_⟩) hS0 ?_
        rotate_left
        · (intro w hSw; (try dsimp only at hSw); obtain ⟨y4, y5⟩ := hSw; go_simp; try with_reducible rfl)
        (try simp only [Act.put, List.getElem_toArray, List.getElem_cons_succ, List.getElem_cons_zero, List.setIfInBounds_toArray, List.set_cons_zero, List.set_cons_succ])
        clear hS0
        refine wpAnyH_ready (rs := [8]) (by kernel_rfl) (by simp) (AllReadyH.cons rfl (fun K hK => ?_) AllReadyH.nil)
        go_simp
        have hsz := HEv3a.out.size
        obtain ⟨g4a, hg4a⟩ : ∃ g, v3a.heap.size = g := ⟨_, rfl⟩
        obtain ⟨v4a, hv4a⟩ : ∃ v, v3a.alloc (.cells #[.int .i64 0, .string ⟨#[]⟩, .int .u32 0, .int .i64 0, .slice none 0 0, .slice none 0 0] 27) = v := ⟨_, rfl⟩
        have hbv : Below v3a.heap.size v3a v4a := by rw [← hv4a]; exact (Below.refl _ _).alloc (Nat.le_refl _) _
        have HEv4a := Lib.hid (HEv3a.out.trans (hbv.mono hsz))
        have hgl := own_at HOv3a.out
        have HOv4a := Lib.hid (show v4a.ownsRow wz.heap.size 27 6 (.slice (some ⟨g3a, 0, none⟩) (0 + ys.length + zs.length) c3a) (0 + ys.length + zs.length) (([] ++ css.flatten) ++ ds.flatten) by rw [← hv4a]; exact World.ownsRow.alloc HOv3a.out _)
        have HBv4a := Lib.hid (show Blk v4a g4a 27 #[.int .i64 0, .string ⟨#[]⟩, .int .u32 0, .int .i64 0, .slice none 0 0, .slice none 0 0] ∧ wz.heap.size ≤ g4a ∧ g4a ≠ g3a from ⟨by rw [← hv4a, ← hg4a]; exact Blk.new _ _ _, by omega, by omega⟩)
        rw [hv4a, hg4a]
        refine hK.out _ _ (HSS.out v4a HEv4a.out) (fun hH => ?_)
        clear hK K hH hv4a hbv hsz hgl
        (try simp only [Act.put, List.getElem_toArray, List.getElem_cons_succ, List.getElem_cons_zero, List.setIfInBounds_toArray, List.set_cons_zero, List.set_cons_succ])
        have hsz := HEv4a.out.size
        obtain ⟨⟨e0, e1, e2, e3, e4, e5⟩, z0, z1, z2, z3, z4, z5⟩ := Blk.c6 HBv4a.out.1
        obtain ⟨v9, hv9⟩ : ∃ v9, put6 v4a g4a (.int .i64 13) (.string ⟨#[]⟩) (.int .u32 0) (.int .i64 0) (.slice (some ⟨g3a, 0, none⟩) (0 + ys.length + zs.length) c3a) (.slice none 0 0) = v9 := ⟨_, rfl⟩
        have hu9 : Upd (fun b => b = g4a) v4a v9 := by rw [← hv9]; exact put6_upd (X := fun b => b = g4a) (Upd.refl _ _) (fun _ => rfl) _ _ _ _ _ _
        have hY9 : Blk v9 g4a 27 #[.int .i64 13, .string ⟨#[]⟩, .int .u32 0, .int .i64 0, .slice (some ⟨g3a, 0, none⟩) (0 + ys.length + zs.length) c3a, .slice none 0 0] := by rw [← hv9]; exact Blk.put6 HBv4a.out.1 _ _ _ _ _ _
        have hE9 : Below wz.heap.size wz v9 := ((Upd.of_below HEv4a.out fun b => b = g4a).trans hu9).below (Nat.le_refl _) fun k hk => by have := HBv4a.out.2.1; omega
        have HXT := Lib.hid (x_tree hE9 HT1.out HT2.out (by have := HLQ.out; omega) HOv4a.out hu9 (Ne.symm HBv4a.out.2.2))
        have HT9 := Lib.hid (HT3.out.upd (Upd.of_below hE9 fun _ => False) fun _ _ h => h)
        have hC9 := HC3.out.below hE9 kl.2.2
        have HW9 := Lib.hid (HWZ.out.trans (hE9.mono HWZ.out.size))
        have HE9 := Lib.hid hE9
        refine wpAnyH_ready (rs := [9]) (by kernel_rfl) (by simp) (AllReadyH.cons rfl (fun K hK => ?_) AllReadyH.nil)
        go_simp
        simp only [put6, Nat.zero_add] at hv9
        (try simp only [Nat.zero_add])
        rw [hv9]
        refine hK.out _ _ (HSS.out v9 HE9.out) (fun hH => ?_)
        clear hK K hH hv9 hu9 e0 e1 e2 e3 e4 e5 z0 z1 z2 z3 z4 z5 hE9
        (try simp only [Act.put, List.getElem_toArray, List.getElem_cons_succ, List.getElem_cons_zero, List.setIfInBounds_toArray, List.set_cons_zero, List.set_cons_succ])
        refine wpAnyH_done (by kernel_rfl) ?_ _
        dsimp only [Exit.then]
        simp only [Nat.zero_add] at hY9 HXT
        obtain ⟨⟨e0, e1, e2, e3, e4, e5⟩, z0, z1, z2, z3, z4, z5⟩ := Blk.c6 hY9
        obtain ⟨⟨g0, g1, g2, g3, g4, g5⟩, y0, y1, y2, y3, y4, y5⟩ := Blk.c6 hC9
        have hsm := rsame (SizeOf.sizeOf (Tr.mk 13 a3 [] 0 [] qs) + 1) (.mk 13 a3 [] 0 [] qs) (.mk 13 0 [] 0 [] (ys ++ zs)) (Nat.lt_succ_self _) (by simp only [sk, HSK.out]) _ _ v9 _ _ _ _ _ _ _ _ _ _ _ _ _ _ _ _ _ _ _ _ HT9.out HXT.out
        have HSM := Lib.hid hsm
        clear hsm
        go_wp2_with fail
        refine HSM.out.mono ?_
        rintro e w8 ⟨rfl, hb8⟩
        have HB8 := Lib.hid (HW9.out.trans (hb8.mono HW9.out.size))
        clear hb8
        go_wp2_with fail
        refine (H5.out _).mono ?_
        rintro e w9 ⟨rfl, hb9⟩
        have HB9 := Lib.hid (HB8.out.trans (hb9.mono HB8.out.size))
        clear hb9
        go_wp2_with fail
        go_ret
        exact ⟨rfl, HB9.out⟩
      · go_simp
        have hsz := HEv2a.out.size
        obtain ⟨g5a, hg5a⟩ : ∃ g, v2a.heap.size = g := ⟨_, rfl⟩
        obtain ⟨v5a, hv5a⟩ : ∃ v, v2a.alloc (.cells #[.int .i64 0, .string ⟨#[]⟩, .int .u32 0, .int .i64 0, .slice none 0 0, .slice none 0 0] 27) = v := ⟨_, rfl⟩
        have hbv : Below v2a.heap.size v2a v5a := by rw [← hv5a]; exact (Below.refl _ _).alloc (Nat.le_refl _) _
        have HEv5a := Lib.hid (HEv2a.out.trans (hbv.mono hsz))
        have hgl := own_at HOv2a.out
        have HOv5a := Lib.hid (show v5a.ownsRow wz.heap.size 27 6 (.slice (some ⟨g2a, 0, none⟩) (0 + ys.length) c2a) (0 + ys.length) ([] ++ css.flatten) by rw [← hv5a]; exact World.ownsRow.alloc HOv2a.out _)
        have HBv5a := Lib.hid (show Blk v5a g5a 27 #[.int .i64 0, .string ⟨#[]⟩, .int .u32 0, .int .i64 0, .slice none 0 0, .slice none 0 0] ∧ wz.heap.size ≤ g5a ∧ g5a ≠ g2a from ⟨by rw [← hv5a, ← hg5a]; exact Blk.new _ _ _, by omega, by omega⟩)
        rw [hv5a, hg5a]
        refine hK.out _ _ (HSS.out v5a HEv5a.out) (fun hH => ?_)
        clear hK K hH hv5a hbv hsz hgl
        (try simp only [Act.put, List.getElem_toArray, List.getElem_cons_succ, List.getElem_cons_zero, List.setIfInBounds_toArray, List.set_cons_zero, List.set_cons_succ])
        refine wpAnyH_ready (rs := [6]) (by kernel_rfl) (by simp) (AllReadyH.cons rfl (fun K hK => ?_) AllReadyH.nil)
        refine step_x rfl (.tmp 67) (.tmp 69) 24 rfl wz.heap.size 27 i0 (.agg #[.int .i64 0, .string ⟨#[]⟩, .int .u32 0, .int .i64 0, .slice none 0 0, .slice none 0 0]) 6 88 Tryd.underlying24 HI.out HZ0.out HZ1.out HZ2.out rfl (by decide) g2a (0 + ys.length) c2a ([] ++ css.flatten) (by simp [Act.eval]) HOv5a.out A2 zs.length cA2 ds.flatten (by simp [Act.eval]) HQ2.out (HM2.out.below HEv5a.out) HO2.out (by unfold maxLen; omega) (by omega) HEv5a.out.size ?_
        intro g6a c6a v6a hE
        have hgl := own_at HOv5a.out
        have hsz := HEv5a.out.size
        have hux : Upd (fun b => b = g2a) v5a v6a := (Upd.refl (fun b => b = g2a) v5a).grown hE.grown fun k hk _ => by cases hk; rfl
        have HEv6a := Lib.hid (((Upd.of_below HEv5a.out fun b => b = g2a).trans hux).below (Nat.le_refl wz.heap.size) fun k hk => by omega)
        have HOv6a := Lib.hid hE.own
        have HBv6a := Lib.hid (show Blk v6a g5a 27 #[.int .i64 0, .string ⟨#[]⟩, .int .u32 0, .int .i64 0, .slice none 0 0, .slice none 0 0] ∧ wz.heap.size ≤ g5a ∧ g5a ≠ g6a from ⟨HBv5a.out.1.upd hux HBv5a.out.2.2, HBv5a.out.2.1, by have h1 := HBv5a.out.1.lt; have h2 := HBv5a.out.2.2; rcases hE.at_ with h | h <;> omega⟩)
        refine hK.out _ _ (HSS.out v6a HEv6a.out) (fun hH => ?_)
        clear hK K hH hE hgl hsz hux
        (try simp only [Act.put, List.getElem_toArray, List.getElem_cons_succ, List.getElem_cons_zero, List.setIfInBounds_toArray, List.set_cons_zero, List.set_cons_succ])
        have hS0 := HSS.out v6a HEv6a.out
        refine wpAnyH_take (i := 7) (v := ?_) rfl (by kernel_rfl) (by kernel_rfl) (by kernel_rfl) (fun _ _ _ h => h) (Or.inl ⟨by rfl, ?_⟩) hS0 ?_
        rotate_left
        · (intro w hSw; (try dsimp only at hSw); obtain ⟨y4, y5⟩ := hSw; go_simp; try with_reducible rfl)
        (try simp only [Act.put, List.getElem_toArray, List.getElem_cons_succ, List.getElem_cons_zero, List.setIfInBounds_toArray, List.set_cons_zero, List.set_cons_succ])
        clear hS0
        have hsz := HEv6a.out.size
        obtain ⟨⟨e0, e1, e2, e3, e4, e5⟩, z0, z1, z2, z3, z4, z5⟩ := Blk.c6 HBv6a.out.1
        obtain ⟨v9, hv9⟩ : ∃ v9, put6 v6a g5a (.int .i64 13) (.string ⟨#[]⟩) (.int .u32 0) (.int .i64 0) (.slice (some ⟨g6a, 0, none⟩) (0 + ys.length + zs.length) c6a) (.slice none 0 0) = v9 := ⟨_, rfl⟩
        have hu9 : Upd (fun b => b = g5a) v6a v9 := by rw [← hv9]; exact put6_upd (X := fun b => b = g5a) (Upd.refl _ _) (fun _ => rfl) _ _ _ _ _ _
        have hY9 : Blk v9 g5a 27 #[.int .i64 13, .string ⟨#[]⟩, .int .u32 0, .int .i64 0, .slice (some ⟨g6a, 0, none⟩) (0 + ys.length + zs.length) c6a, .slice none 0 0] := by rw [← hv9]; exact Blk.put6 HBv6a.out.1 _ _ _ _ _ _
        have hE9 : Below wz.heap.size wz v9 := ((Upd.of_below HEv6a.out fun b => b = g5a).trans hu9).below (Nat.le_refl _) fun k hk => by have := HBv6a.out.2.1; omega
        have HXT := Lib.hid (x_tree hE9 HT1.out HT2.out (by have := HLQ.out; omega) HOv6a.out hu9 (Ne.symm HBv6a.out.2.2))
        have HT9 := Lib.hid (HT3.out.upd (Upd.of_below hE9 fun _ => False) fun _ _ h => h)
        have hC9 := HC3.out.below hE9 kl.2.2
        have HW9 := Lib.hid (HWZ.out.trans (hE9.mono HWZ.out.size))
        have HE9 := Lib.hid hE9
        refine wpAnyH_ready (rs := [9]) (by kernel_rfl) (by simp) (AllReadyH.cons rfl (fun K hK => ?_) AllReadyH.nil)
        go_simp
        simp only [put6, Nat.zero_add] at hv9
        (try simp only [Nat.zero_add])
        rw [hv9]
        refine hK.out _ _ (HSS.out v9 HE9.out) (fun hH => ?_)
        clear hK K hH hv9 hu9 e0 e1 e2 e3 e4 e5 z0 z1 z2 z3 z4 z5 hE9
        (try simp only [Act.put, List.getElem_toArray, List.getElem_cons_succ, List.getElem_cons_zero, List.setIfInBounds_toArray, List.set_cons_zero, List.set_cons_succ])
        refine wpAnyH_done (by kernel_rfl) ?_ _
        dsimp only [Exit.then]
        simp only [Nat.zero_add] at hY9 HXT
        obtain ⟨⟨e0, e1, e2, e3, e4, e5⟩, z0, z1, z2, z3, z4, z5⟩ := Blk.c6 hY9
        obtain ⟨⟨g0, g1, g2, g3, g4, g5⟩, y0, y1, y2, y3, y4, y5⟩ := Blk.c6 hC9
        have hsm := rsame (SizeOf.sizeOf (Tr.mk 13 a3 [] 0 [] qs) + 1) (.mk 13 a3 [] 0 [] qs) (.mk 13 0 [] 0 [] (ys ++ zs)) (Nat.lt_succ_self _) (by simp only [sk, HSK.out]) _ _ v9 _ _ _ _ _ _ _ _ _ _ _ _ _ _ _ _ _ _ _ _ HT9.out HXT.out
        have HSM := Lib.hid hsm
        clear hsm
        go_wp2_with fail
        refine HSM.out.mono ?_
        rintro e w8 ⟨rfl, hb8⟩
        have HB8 := Lib.hid (HW9.out.trans (hb8.mono HW9.out.size))
        clear hb8
        go_wp2_with fail
        refine (H5.out _).mono ?_
        rintro e w9 ⟨rfl, hb9⟩
        have HB9 := Lib.hid (HB8.out.trans (hb9.mono HB8.out.size))
        clear hb9
        go_wp2_with fail
        go_ret
        exact ⟨rfl, HB9.out⟩
    · go_simp
      have hsz := HEv1a.out.size
      obtain ⟨g7a, hg7a⟩ : ∃ g, v1a.heap.size = g := ⟨_, rfl⟩
      obtain ⟨v7a, hv7a⟩ : ∃ v, v1a.alloc (.cells #[.int .i64 0, .string ⟨#[]⟩, .int .u32 0, .int .i64 0, .slice none 0 0, .slice none 0 0] 27) = v := ⟨_, rfl⟩
      have hbv : Below v1a.heap.size v1a v7a := by rw [← hv7a]; exact (Below.refl _ _).alloc (Nat.le_refl _) _
      have HEv7a := Lib.hid (HEv1a.out.trans (hbv.mono hsz))
      have hgl := own_at HOv1a.out
      have HOv7a := Lib.hid (show v7a.ownsRow wz.heap.size 27 6 (.slice (some ⟨g1a, 0, none⟩) 0 0) 0 [] by rw [← hv7a]; exact World.ownsRow.alloc HOv1a.out _)
      have HBv7a := Lib.hid (show Blk v7a g7a 27 #[.int .i64 0, .string ⟨#[]⟩, .int .u32 0, .int .i64 0, .slice none 0 0, .slice none 0 0] ∧ wz.heap.size ≤ g7a ∧ g7a ≠ g1a from ⟨by rw [← hv7a, ← hg7a]; exact Blk.new _ _ _, by omega, by omega⟩)
      rw [hv7a, hg7a]
      refine hK.out _ _ (HSS.out v7a HEv7a.out) (fun hH => ?_)
      clear hK K hH hv7a hbv hsz hgl
      (try simp only [Act.put, List.getElem_toArray, List.getElem_cons_succ, List.getElem_cons_zero, List.setIfInBounds_toArray, List.set_cons_zero, List.set_cons_succ])
      refine wpAnyH_ready (rs := [3]) (by kernel_rfl) (by simp) (AllReadyH.cons rfl (fun K hK => ?_) AllReadyH.nil)
      refine step_x rfl (.tmp 64) (.tmp 66) 24 rfl wz.heap.size 27 i0 (.agg #[.int .i64 0, .string ⟨#[]⟩, .int .u32 0, .int .i64 0, .slice none 0 0, .slice none 0 0]) 6 88 Tryd.underlying24 HI.out HZ0.out HZ1.out HZ2.out rfl (by decide) g1a 0 0 [] (by simp [Act.eval]) HOv7a.out A1 ys.length cA1 css.flatten (by simp [Act.eval]) HQ1.out (HM1.out.below HEv7a.out) HO1.out (by unfold maxLen; omega) (by omega) HEv7a.out.size ?_
      intro g8a c8a v8a hE
      have hgl := own_at HOv7a.out
      have hsz := HEv7a.out.size
      have hux : Upd (fun b => b = g1a) v7a v8a := (Upd.refl (fun b => b = g1a) v7a).grown hE.grown fun k hk _ => by cases hk; rfl
      have HEv8a := Lib.hid (((Upd.of_below HEv7a.out fun b => b = g1a).trans hux).below (Nat.le_refl wz.heap.size) fun k hk => by omega)
      have HOv8a := Lib.hid hE.own
      have HBv8a := Lib.hid (show Blk v8a g7a 27 #[.int .i64 0, .string ⟨#[]⟩, .int .u32 0, .int .i64 0, .slice none 0 0, .slice none 0 0] ∧ wz.heap.size ≤ g7a ∧ g7a ≠ g8a from ⟨HBv7a.out.1.upd hux HBv7a.out.2.2, HBv7a.out.2.1, by have h1 := HBv7a.out.1.lt; have h2 := HBv7a.out.2.2; rcases hE.at_ with h | h <;> omega⟩)
      refine hK.out _ _ (HSS.out v8a HEv8a.out) (fun hH => ?_)
      clear hK K hH hE hgl hsz hux
      (try simp only [Act.put, List.getElem_toArray, List.getElem_cons_succ, List.getElem_cons_zero, List.setIfInBounds_toArray, List.set_cons_zero, List.set_cons_succ])
      refine wpAnyH_ready (rs := [6]) (by kernel_rfl) (by simp) (AllReadyH.cons rfl (fun K hK => ?_) AllReadyH.nil)
      refine step_x rfl (.tmp 67) (.tmp 69) 24 rfl wz.heap.size 27 i0 (.agg #[.int .i64 0, .string ⟨#[]⟩, .int .u32 0, .int .i64 0, .slice none 0 0, .slice none 0 0]) 6 88 Tryd.underlying24 HI.out HZ0.out HZ1.out HZ2.out rfl (by decide) g8a (0 + ys.length) c8a ([] ++ css.flatten) (by simp [Act.eval]) HOv8a.out A2 zs.length cA2 ds.flatten (by simp [Act.eval]) HQ2.out (HM2.out.below HEv8a.out) HO2.out (by unfold maxLen; omega) (by omega) HEv8a.out.size ?_
      intro g9a c9a v9a hE
      have hgl := own_at HOv8a.out
      have hsz := HEv8a.out.size
      have hux : Upd (fun b => b = g8a) v8a v9a := (Upd.refl (fun b => b = g8a) v8a).grown hE.grown fun k hk _ => by cases hk; rfl
      have HEv9a := Lib.hid (((Upd.of_below HEv8a.out fun b => b = g8a).trans hux).below (Nat.le_refl wz.heap.size) fun k hk => by omega)
      have HOv9a := Lib.hid hE.own
      have HBv9a := Lib.hid (show Blk v9a g7a 27 #[.int .i64 0, .string ⟨#[]⟩, .int .u32 0, .int .i64 0, .slice none 0 0, .slice none 0 0] ∧ wz.heap.size ≤ g7a ∧ g7a ≠ g9a from ⟨HBv8a.out.1.upd hux HBv8a.out.2.2, HBv8a.out.2.1, by have h1 := HBv8a.out.1.lt; have h2 := HBv8a.out.2.2; rcases hE.at_ with h | h <;> omega⟩)
      refine hK.out _ _ (HSS.out v9a HEv9a.out) (fun hH => ?_)
      clear hK K hH hE hgl hsz hux
      (try simp only [Act.put, List.getElem_toArray, List.getElem_cons_succ, List.getElem_cons_zero, List.setIfInBounds_toArray, List.set_cons_zero, List.set_cons_succ])
      have hS0 := HSS.out v9a HEv9a.out
      refine wpAnyH_take (i := 7) (v := ?_) rfl (by kernel_rfl) (by kernel_rfl) (by kernel_rfl) (fun _ _ _ h => h) (Or.inl ⟨by rfl, ?_⟩) hS0 ?_
      rotate_left
      · (intro w hSw; (try dsimp only at hSw); obtain ⟨y4, y5⟩ := hSw; go_simp; try with_reducible rfl)
      (try simp only [Act.put, List.getElem_toArray, List.getElem_cons_succ, List.getElem_cons_zero, List.setIfInBounds_toArray, List.set_cons_zero, List.set_cons_succ])
      clear hS0
      have hsz := HEv9a.out.size
      obtain ⟨⟨e0, e1, e2, e3, e4, e5⟩, z0, z1, z2, z3, z4, z5⟩ := Blk.c6 HBv9a.out.1
      obtain ⟨v9, hv9⟩ : ∃ v9, put6 v9a g7a (.int .i64 13) (.string ⟨#[]⟩) (.int .u32 0) (.int .i64 0) (.slice (some ⟨g9a, 0, none⟩) (0 + ys.length + zs.length) c9a) (.slice none 0 0) = v9 := ⟨_, rfl⟩
      have hu9 : Upd (fun b => b = g7a) v9a v9 := by rw [← hv9]; exact put6_upd (X := fun b => b = g7a) (Upd.refl _ _) (fun _ => rfl) _ _ _ _ _ _
      have hY9 : Blk v9 g7a 27 #[.int .i64 13, .string ⟨#[]⟩, .int .u32 0, .int .i64 0, .slice (some ⟨g9a, 0, none⟩) (0 + ys.length + zs.length) c9a, .slice none 0 0] := by rw [← hv9]; exact Blk.put6 HBv9a.out.1 _ _ _ _ _ _
      have hE9 : Below wz.heap.size wz v9 := ((Upd.of_below HEv9a.out fun b => b = g7a).trans hu9).below (Nat.le_refl _) fun k hk => by have := HBv9a.out.2.1; omega
      have HXT := Lib.hid (x_tree hE9 HT1.out HT2.out (by have := HLQ.out; omega) HOv9a.out hu9 (Ne.symm HBv9a.out.2.2))
      have HT9 := Lib.hid (HT3.out.upd (Upd.of_below hE9 fun _ => False) fun _ _ h => h)
      have hC9 := HC3.out.below hE9 kl.2.2
      have HW9 := Lib.hid (HWZ.out.trans (hE9.mono HWZ.out.size))
      have HE9 := Lib.hid hE9
      refine wpAnyH_ready (rs := [9]) (by kernel_rfl) (by simp) (AllReadyH.cons rfl (fun K hK => ?_) AllReadyH.nil)
      go_simp
      simp only [put6, Nat.zero_add] at hv9
      (try simp only [Nat.zero_add])
      rw [hv9]
      refine hK.out _ _ (HSS.out v9 HE9.out) (fun hH => ?_)
      clear hK K hH hv9 hu9 e0 e1 e2 e3 e4 e5 z0 z1 z2 z3 z4 z5 hE9
      (try simp only [Act.put, List.getElem_toArray, List.getElem_cons_succ, List.getElem_cons_zero, List.setIfInBounds_toArray, List.set_cons_zero, List.set_cons_succ])
      refine wpAnyH_done (by kernel_rfl) ?_ _
      dsimp only [Exit.then]
      simp only [Nat.zero_add] at hY9 HXT
      obtain ⟨⟨e0, e1, e2, e3, e4, e5⟩, z0, z1, z2, z3, z4, z5⟩ := Blk.c6 hY9
      obtain ⟨⟨g0, g1, g2, g3, g4, g5⟩, y0, y1, y2, y3, y4, y5⟩ := Blk.c6 hC9
      have hsm := rsame (SizeOf.sizeOf (Tr.mk 13 a3 [] 0 [] qs) + 1) (.mk 13 a3 [] 0 [] qs) (.mk 13 0 [] 0 [] (ys ++ zs)) (Nat.lt_succ_self _) (by simp only [sk, HSK.out]) _ _ v9 _ _ _ _ _ _ _ _ _ _ _ _ _ _ _ _ _ _ _ _ HT9.out HXT.out
      have HSM := Lib.hid hsm
      clear hsm
      go_wp2_with fail
      refine HSM.out.mono ?_
      rintro e w8 ⟨rfl, hb8⟩
      have HB8 := Lib.hid (HW9.out.trans (hb8.mono HW9.out.size))
      clear hb8
      go_wp2_with fail
      refine (H5.out _).mono ?_
      rintro e w9 ⟨rfl, hb9⟩
      have HB9 := Lib.hid (HB8.out.trans (hb9.mono HB8.out.size))
      clear hb9
      go_wp2_with fail
      go_ret
      exact ⟨rfl, HB9.out⟩
  · go_simp
    have hsz := HEwz.out.size
    obtain ⟨g10a, hg10a⟩ : ∃ g, wz.heap.size = g := ⟨_, rfl⟩
    obtain ⟨v10a, hv10a⟩ : ∃ v, wz.alloc (.cells #[.int .i64 0, .string ⟨#[]⟩, .int .u32 0, .int .i64 0, .slice none 0 0, .slice none 0 0] 27) = v := ⟨_, rfl⟩
    have hbv : Below wz.heap.size wz v10a := by rw [← hv10a]; exact (Below.refl _ _).alloc (Nat.le_refl _) _
    have HEv10a := Lib.hid (HEwz.out.trans (hbv.mono hsz))
    have HBv10a := Lib.hid (show Blk v10a g10a 27 #[.int .i64 0, .string ⟨#[]⟩, .int .u32 0, .int .i64 0, .slice none 0 0, .slice none 0 0] ∧ wz.heap.size ≤ g10a from ⟨by rw [← hv10a, ← hg10a]; exact Blk.new _ _ _, by omega⟩)
    rw [hv10a, hg10a]
    refine hK.out _ _ (HSS.out v10a HEv10a.out) (fun hH => ?_)
    clear hK K hH hv10a hbv hsz
    (try simp only [Act.put, List.getElem_toArray, List.getElem_cons_succ, List.getElem_cons_zero, List.setIfInBounds_toArray, List.set_cons_zero, List.set_cons_succ])
    refine wpAnyH_ready (rs := [0]) (by kernel_rfl) (by simp) (AllReadyH.cons rfl (fun K hK => ?_) AllReadyH.nil)
    go_simp
    have hsz := HEv10a.out.size
    obtain ⟨g11a, hg11a⟩ : ∃ g, v10a.heap.size = g := ⟨_, rfl⟩
    obtain ⟨v11a, hv11a⟩ : ∃ v, v10a.alloc (.cells #[] 27) = v := ⟨_, rfl⟩
    have hbv : Below v10a.heap.size v10a v11a := by rw [← hv11a]; exact (Below.refl _ _).alloc (Nat.le_refl _) _
    have HEv11a := Lib.hid (HEv10a.out.trans (hbv.mono hsz))
    have HOv11a := Lib.hid (show v11a.ownsRow wz.heap.size 27 6 (.slice (some ⟨g11a, 0, none⟩) 0 0) 0 [] by rw [← hv11a, ← hg11a]; exact own_empty v10a hsz 27 6)
    have HBv11a := Lib.hid (show Blk v11a g10a 27 #[.int .i64 0, .string ⟨#[]⟩, .int .u32 0, .int .i64 0, .slice none 0 0, .slice none 0 0] ∧ wz.heap.size ≤ g10a ∧ g10a ≠ g11a from ⟨HBv10a.out.1.below hbv HBv10a.out.1.lt, HBv10a.out.2, by have := HBv10a.out.1.lt; omega⟩)
    rw [hv11a, hg11a]
    refine hK.out _ _ (HSS.out v11a HEv11a.out) (fun hH => ?_)
    clear hK K hH hv11a hbv hsz
    (try simp only [Act.put, List.getElem_toArray, List.getElem_cons_succ, List.getElem_cons_zero, List.setIfInBounds_toArray, List.set_cons_zero, List.set_cons_succ])
    refine wpAnyH_ready (rs := [3]) (by kernel_rfl) (by simp) (AllReadyH.cons rfl (fun K hK => ?_) AllReadyH.nil)
    refine step_x rfl (.tmp 64) (.tmp 66) 24 rfl wz.heap.size 27 i0 (.agg #[.int .i64 0, .string ⟨#[]⟩, .int .u32 0, .int .i64 0, .slice none 0 0, .slice none 0 0]) 6 88 Tryd.underlying24 HI.out HZ0.out HZ1.out HZ2.out rfl (by decide) g11a 0 0 [] (by simp [Act.eval]) HOv11a.out A1 ys.length cA1 css.flatten (by simp [Act.eval]) HQ1.out (HM1.out.below HEv11a.out) HO1.out (by unfold maxLen; omega) (by omega) HEv11a.out.size ?_
    intro g12a c12a v12a hE
    have hgl := own_at HOv11a.out
    have hsz := HEv11a.out.size
    have hux : Upd (fun b => b = g11a) v11a v12a := (Upd.refl (fun b => b = g11a) v11a).grown hE.grown fun k hk _ => by cases hk; rfl
    have HEv12a := Lib.hid (((Upd.of_below HEv11a.out fun b => b = g11a).trans hux).below (Nat.le_refl wz.heap.size) fun k hk => by omega)
    have HOv12a := Lib.hid hE.own
    have HBv12a := Lib.hid (show Blk v12a g10a 27 #[.int .i64 0, .string ⟨#[]⟩, .int .u32 0, .int .i64 0, .slice none 0 0, .slice none 0 0] ∧ wz.heap.size ≤ g10a ∧ g10a ≠ g12a from ⟨HBv11a.out.1.upd hux HBv11a.out.2.2, HBv11a.out.2.1, by have h1 := HBv11a.out.1.lt; have h2 := HBv11a.out.2.2; rcases hE.at_ with h | h <;> omega⟩)
    refine hK.out _ _ (HSS.out v12a HEv12a.out) (fun hH => ?_)
    clear hK K hH hE hgl hsz hux
    (try simp only [Act.put, List.getElem_toArray, List.getElem_cons_succ, List.getElem_cons_zero, List.setIfInBounds_toArray, List.set_cons_zero, List.set_cons_succ])
    refine wpAnyH_ready (rs := [6]) (by kernel_rfl) (by simp) (AllReadyH.cons rfl (fun K hK => ?_) AllReadyH.nil)
    refine step_x rfl (.tmp 67) (.tmp 69) 24 rfl wz.heap.size 27 i0 (.agg #[.int .i64 0, .string ⟨#[]⟩, .int .u32 0, .int .i64 0, .slice none 0 0, .slice none 0 0]) 6 88 Tryd.underlying24 HI.out HZ0.out HZ1.out HZ2.out rfl (by decide) g12a (0 + ys.length) c12a ([] ++ css.flatten) (by simp [Act.eval]) HOv12a.out A2 zs.length cA2 ds.flatten (by simp [Act.eval]) HQ2.out (HM2.out.below HEv12a.out) HO2.out (by unfold maxLen; omega) (by omega) HEv12a.out.size ?_
    intro g13a c13a v13a hE
    have hgl := own_at HOv12a.out
    have hsz := HEv12a.out.size
    have hux : Upd (fun b => b = g12a) v12a v13a := (Upd.refl (fun b => b = g12a) v12a).grown hE.grown fun k hk _ => by cases hk; rfl
    have HEv13a := Lib.hid (((Upd.of_below HEv12a.out fun b => b = g12a).trans hux).below (Nat.le_refl wz.heap.size) fun k hk => by omega)
    have HOv13a := Lib.hid hE.own
    have HBv13a := Lib.hid (show Blk v13a g10a 27 #[.int .i64 0, .string ⟨#[]⟩, .int .u32 0, .int .i64 0, .slice none 0 0, .slice none 0 0] ∧ wz.heap.size ≤ g10a ∧ g10a ≠ g13a from ⟨HBv12a.out.1.upd hux HBv12a.out.2.2, HBv12a.out.2.1, by have h1 := HBv12a.out.1.lt; have h2 := HBv12a.out.2.2; rcases hE.at_ with h | h <;> omega⟩)
    refine hK.out _ _ (HSS.out v13a HEv13a.out) (fun hH => ?_)
    clear hK K hH hE hgl hsz hux
    (try simp only [Act.put, List.getElem_toArray, List.getElem_cons_succ, List.getElem_cons_zero, List.setIfInBounds_toArray, List.set_cons_zero, List.set_cons_succ])
    have hS0 := HSS.out v13a HEv13a.out
    refine wpAnyH_take (i := 7) (v := ?_) rfl (by kernel_rfl) (by kernel_rfl) (by kernel_rfl) (fun _ _ _ h => h) (Or.inl ⟨by rfl, ?_⟩) hS0 ?_
    rotate_left
    · (intro w hSw; (try dsimp only at hSw); obtain ⟨y4, y5⟩ := hSw; go_simp; try with_reducible rfl)
    (try simp only [Act.put, List.getElem_toArray, List.getElem_cons_succ, List.getElem_cons_zero, List.setIfInBounds_toArray, List.set_cons_zero, List.set_cons_succ])
    clear hS0
    have hsz := HEv13a.out.size
    obtain ⟨⟨e0, e1, e2, e3, e4, e5⟩, z0, z1, z2, z3, z4, z5⟩ := Blk.c6 HBv13a.out.1
    obtain ⟨v9, hv9⟩ : ∃ v9, put6 v13a g10a (.int .i64 13) (.string ⟨#[]⟩) (.int .u32 0) (.int .i64 0) (.slice (some ⟨g13a, 0, none⟩) (0 + ys.length + zs.length) c13a) (.slice none 0 0) = v9 := ⟨_, rfl⟩
    have hu9 : Upd (fun b => b = g10a) v13a v9 := by rw [← hv9]; exact put6_upd (X := fun b => b = g10a) (Upd.refl _ _) (fun _ => rfl) _ _ _ _ _ _
    have hY9 : Blk v9 g10a 27 #[.int .i64 13, .string ⟨#[]⟩, .int .u32 0, .int .i64 0, .slice (some ⟨g13a, 0, none⟩) (0 + ys.length + zs.length) c13a, .slice none 0 0] := by rw [← hv9]; exact Blk.put6 HBv13a.out.1 _ _ _ _ _ _
    have hE9 : Below wz.heap.size wz v9 := ((Upd.of_below HEv13a.out fun b => b = g10a).trans hu9).below (Nat.le_refl _) fun k hk => by have := HBv13a.out.2.1; omega
    have HXT := Lib.hid (x_tree hE9 HT1.out HT2.out (by have := HLQ.out; omega) HOv13a.out hu9 (Ne.symm HBv13a.out.2.2))
    have HT9 := Lib.hid (HT3.out.upd (Upd.of_below hE9 fun _ => False) fun _ _ h => h)
    have hC9 := HC3.out.below hE9 kl.2.2
    have HW9 := Lib.hid (HWZ.out.trans (hE9.mono HWZ.out.size))
    have HE9 := Lib.hid hE9
    refine wpAnyH_ready (rs := [9]) (by kernel_rfl) (by simp) (AllReadyH.cons rfl (fun K hK => ?_) AllReadyH.nil)
    go_simp
    simp only [put6, Nat.zero_add] at hv9
    (try simp only [Nat.zero_add])
    rw [hv9]
    refine hK.out _ _ (HSS.out v9 HE9.out) (fun hH => ?_)
    clear hK K hH hv9 hu9 e0 e1 e2 e3 e4 e5 z0 z1 z2 z3 z4 z5 hE9
    (try simp only [Act.put, List.getElem_toArray, List.getElem_cons_succ, List.getElem_cons_zero, List.setIfInBounds_toArray, List.set_cons_zero, List.set_cons_succ])
    refine wpAnyH_done (by kernel_rfl) ?_ _
    dsimp only [Exit.then]
    simp only [Nat.zero_add] at hY9 HXT
    obtain ⟨⟨e0, e1, e2, e3, e4, e5⟩, z0, z1, z2, z3, z4, z5⟩ := Blk.c6 hY9
    obtain ⟨⟨g0, g1, g2, g3, g4, g5⟩, y0, y1, y2, y3, y4, y5⟩ := Blk.c6 hC9
    have hsm := rsame (SizeOf.sizeOf (Tr.mk 13 a3 [] 0 [] qs) + 1) (.mk 13 a3 [] 0 [] qs) (.mk 13 0 [] 0 [] (ys ++ zs)) (Nat.lt_succ_self _) (by simp only [sk, HSK.out]) _ _ v9 _ _ _ _ _ _ _ _ _ _ _ _ _ _ _ _ _ _ _ _ HT9.out HXT.out
    have HSM := Lib.hid hsm
    clear hsm
    go_wp2_with fail
    refine HSM.out.mono ?_
    rintro e w8 ⟨rfl, hb8⟩
    have HB8 := Lib.hid (HW9.out.trans (hb8.mono HW9.out.size))
    clear hb8
    go_wp2_with fail
    refine (H5.out _).mono ?_
    rintro e w9 ⟨rfl, hb9⟩
    have HB9 := Lib.hid (HB8.out.trans (hb9.mono HB8.out.size))
    clear hb9
    go_wp2_with fail
    go_ret
    exact ⟨rfl, HB9.out⟩
end Go.Proofs.YtkdpndoollbggaaDoor.Pa
