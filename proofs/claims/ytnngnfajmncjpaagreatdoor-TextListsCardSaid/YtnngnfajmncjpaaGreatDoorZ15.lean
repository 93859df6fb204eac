/- DERIVED. TxWrite in one text. By an AI agent. -/
import Derived.Test.YtnngnfajmncjpaaGreatDoorZ09
import Derived.Test.YtnngnfajmncjpaaGreatDoorZ14
import Derived.Deep.LoopGhost
/- DERIVED. The contract of the program's write: a shape with an instruction's numbers. By an AI agent. -/
namespace Go.Proofs.YtnngnfajmncjpaaGreatDoor.Tx
open Go.ChangeShapes Go.WideShapes Go.ChangeAt Go.RowKit Go.Lib Go.Sort
set_option linter.unusedVariables false
theorem isB_below {b : Nat} {l : Txt} {w w' : World} (h : Bld.IsB b l w) (hb : Below w.heap.size w w') : Bld.IsB b l w' := by
  have key : ∀ p bs, BuilderAtF 33 5 b b p bs w → BuilderAtF 33 5 b b p bs w' := by
    intro p bs h
    have hlt := h.lt
    obtain ⟨hB, v, hbk, hown, hne⟩ := h
    refine ⟨hB, v, (hb.block b hlt).trans hbk, hown.kept (row := none) ⟨hb.os, hb.tape, hb.output, hb.size, fun k hk _ => hb.block k hk⟩ ?_, hne⟩
    cases hv : v.ownBlock with
    | none => exact Or.inl rfl
    | some q => exact Or.inr (by simp)
  rcases h with h | h
  · exact Or.inl (key _ _ h)
  · exact Or.inr (key _ _ h)
def pcs (c : UInt8) (s : Nm) : Txt := match plc c with | some p => p.show s | none => [c]
theorem wr_app : ∀ (a b : Txt) (s : Nm), wr (a ++ b) s = wr a s ++ wr b s
  | [], _, _ => rfl
  | c :: a, b, s => by rw [List.cons_append, wr, wr, wr_app a b s, List.append_assoc]
theorem wr_snoc (a : Txt) (c : UInt8) (s : Nm) : wr (a ++ [c]) s = wr a s ++ pcs c s := by
  rw [wr_app]
  congr 1
  exact List.append_nil _
/-- A letter that can be written. -/
structure Wok (c : UInt8) (s : Nm) : Prop where
  asc : c.toNat < 128
  num : ∀ p, plc c = some p → if p.ws = [] then -100000 ≤ (p.times : Int) * s.get p.of ∧ (p.times : Int) * s.get p.of ≤ 100000 else 0 ≤ s.get p.of ∧ s.get p.of < p.ws.length
theorem plc_of {c : UInt8} {p : Pl} (h : plc c = some p) : p.of < 4 ∧ p.times ≤ 4 := by
  unfold plc at h
  repeat' (split at h)
  all_goals first | (cases h; exact ⟨by decide, by decide⟩) | cases h
theorem wlen_le (ws : List Txt) (hws : ws = aluW ∨ ws = cndW) (j : Nat) : (ws[j]?.getD []).length ≤ 4 := by
  have hall : ∀ x ∈ ws, x.length ≤ 4 := by rcases hws with rfl | rfl <;> decide
  by_cases hj : j < ws.length
  · rw [List.getElem?_eq_getElem hj]; exact hall _ (List.getElem_mem hj)
  · rw [List.getElem?_eq_none (by omega)]; simp
theorem pcs_len (c : UInt8) (s : Nm) (h : Wok c s) : (pcs c s).length ≤ 8 := by
  unfold pcs
  cases hc : plc c with
  | none => simp
  | some p =>
    have hn := h.num p hc
    simp only
    unfold Pl.show
    split
    · rename_i hw
      rw [if_pos hw] at hn
      have := itoa_len _ hn.1 hn.2
      simp; omega
    · rename_i hw
      have := wlen_le p.ws ((plc_ws hc).resolve_left hw) (s.get p.of).toNat
      omega
theorem wr_len (s : Nm) : ∀ (sh : Txt), (∀ c ∈ sh, Wok c s) → (wr sh s).length ≤ sh.length * 8
  | [], _ => by simp [wr]
  | c :: r, h => by
    have h1 := pcs_len c s (h c (by simp))
    have h2 := wr_len s r fun x hx => h x (by simp [hx])
    show (pcs c s ++ wr r s).length ≤ _
    rw [List.length_append, List.length_cons]
    omega
set_option maxHeartbeats 4000000 in
set_option maxRecDepth 100000 in
theorem writeC (sh : Txt) (s : Nm) (op : Int) (hok : ∀ c ∈ sh, Wok c s) (hlen : sh.length ≤ 100) (w : World) (hL : Lw w) :
    Calls Tryz.prog 28 #[.string ⟨sh.toArray⟩, .agg #[.int .i64 op, .int .i64 s.d, .int .i64 s.n, .int .i64 s.m, .int .i64 s.i]] w fun e w' => e = .returned (str (wr sh s)) ∧ Below w.heap.size w w' := by
  have q0 : ∀ j, (w.alloc (.cells #[.int .i64 op, .int .i64 s.d, .int .i64 s.n, .int .i64 s.m, .int .i64 s.i] 50)).cell? ⟨w.heap.size, j, none⟩ = (#[.int .i64 op, .int .i64 s.d, .int .i64 s.n, .int .i64 s.m, .int .i64 s.i] : Array Value)[j]? := fun j => World.cell?_alloc_at _ _ _ _ rfl
  have hb1 : Below w.heap.size w (w.alloc (.cells #[.int .i64 op, .int .i64 s.d, .int .i64 s.n, .int .i64 s.m, .int .i64 s.i] 50)) := (Below.refl _ _).alloc (Nat.le_refl _) _
  have hsz1 : (w.alloc (.cells #[.int .i64 op, .int .i64 s.d, .int .i64 s.n, .int .i64 s.m, .int .i64 s.i] 50)).heap.size = w.heap.size + 1 := by simp
  have HQ := Lib.hid q0; have HB1 := Lib.hid hb1; have HSZ1 := Lib.hid hsz1; have HL := Lib.hid hL; have HOK := Lib.hid hok
  clear q0 hb1 hsz1 hL hok
  go_enter Tryz.func28, Tryz.ntmps28
  go_wp2_with fail
  generalize hw1 : w.alloc (.cells #[.int .i64 op, .int .i64 s.d, .int .i64 s.n, .int .i64 s.m, .int .i64 s.i] 50) = w1 at *
  have hst : Bld.IsB (w.heap.size + 1) [] ((w1.alloc (.cells #[.pointer none, .slice none 0 0] 33)).iter ⟨sh.toArray⟩ 0) ∧ ((w1.alloc (.cells #[.pointer none, .slice none 0 0] 33)).iter ⟨sh.toArray⟩ 0).heap[w.heap.size + 1 + 1]? = some (.stringIter ⟨sh.toArray⟩ 0) ∧ Below (w.heap.size + 1) w1 ((w1.alloc (.cells #[.pointer none, .slice none 0 0] 33)).iter ⟨sh.toArray⟩ 0) := by
    have hz := HSZ1.out
    rw [← hz]
    refine ⟨(IsBuilderF.of (fresh_isBuilder 33 5 w1)).alloc _, ?_, ((Below.refl _ w1).alloc (Nat.le_refl _) _).alloc (by simp) _⟩
    have := World.iter_heap (w1.alloc (.cells #[.pointer none, .slice none 0 0] 33)) ⟨sh.toArray⟩ 0
    simpa using this
  have HST := Lib.hid hst
  clear hst
  generalize (w1.alloc (.cells #[.pointer none, .slice none 0 0] 33)).iter ⟨sh.toArray⟩ 0 = w2 at *
  have HW1 := Lib.hid hw1
  clear hw1
  generalize hn0 : w.heap.size = n0 at *
  have hLw : ∀ w', Below n0 w w' → Lw w' := fun w' hb => HL.out.below (hn0 ▸ hb)
  have HLW := Lib.hid hLw; have HN0 := Lib.hid hn0
  clear hLw hn0
  go_loopg [] sh.length (fun g wr => ∃ (k : Nat), g = sh.length - k ∧ k ≤ sh.length ∧ Hid (Bld.IsB (n0 + 1) (Tx.wr (sh.take k) s) wr ∧ wr.heap[n0 + 1 + 1]? = some (.stringIter ⟨sh.toArray⟩ k) ∧ Below (n0 + 1) w1 wr))
  case atStart => exact ⟨0, by omega, by omega, HST.out⟩
  case round =>
    obtain ⟨k, rfl, hk, HH⟩ := hrel
    clear HST
    have hsz : n0 + 1 + 1 < wr.heap.size := (Array.getElem?_eq_some_iff.1 HH.out.2.1).1
    by_cases hlt : k < sh.length
    · have hx : sh[k]? = some sh[k] := List.getElem?_eq_getElem hlt
      have hxm : sh[k] ∈ sh := List.getElem_mem hlt
      have htk : sh.take (k + 1) = sh.take k ++ [sh[k]] := List.take_succ_eq_append_getElem hlt
      have hwk := HOK.out _ hxm
      have hll := wr_len s (sh.take k) fun c hc => HOK.out c (List.mem_of_mem_take hc)
      rw [List.length_take] at hll
      have hpl := pcs_len _ s hwk
      have hbyte : ∀ h : k < (⟨sh.toArray⟩ : ByteArray).size, ((⟨sh.toArray⟩ : ByteArray)[k]'h) = sh[k] := fun h => by
        show sh.toArray[k] = _
        simp
      have hnx : ∀ ty, (Instr.next (.pointer (some ⟨n0 + 1 + 1, 0, none⟩)) true ty).run Tryz.prog wr = .ok (.tuple #[.bool true, .int .i64 k, .int .i32 (sh[k].toNat : Int)]) (wr.iterAt (n0 + 1 + 1) ⟨sh.toArray⟩ (k + 1)) := fun ty => by
        have h := run_next_ascii_at (P := Tryz.prog) wr (n0 + 1 + 1) ⟨sh.toArray⟩ k ty HH.out.2.1 (by simpa [ByteArray.size] using hlt) (by rw [hbyte]; exact hwk.asc)
        rw [hbyte] at h
        exact h
      have hI2 := HH.out.1.iterAt HH.out.2.1 (k + 1)
      have hit2 := iterAt_heap wr (n0 + 1 + 1) ⟨sh.toArray⟩ k (k + 1) HH.out.2.1
      have hbw2 := below_iterAt HH.out.2.2 (k := n0 + 1 + 1) (by omega) ⟨sh.toArray⟩ (k + 1)
      have hs2 : n0 + 1 + 1 < (wr.iterAt (n0 + 1 + 1) ⟨sh.toArray⟩ (k + 1)).heap.size := by rw [iterAt_size]; exact hsz
      generalize wr.iterAt (n0 + 1 + 1) ⟨sh.toArray⟩ (k + 1) = wi at *
      generalize sh[k] = x at *
      have hpx := placeOf n0 x hwk.asc wi
      have H2 := Lib.hid (And.intro hI2 (And.intro hit2 hbw2)); have HX := Lib.hid (And.intro htk hwk); have HLN := Lib.hid (And.intro hll hpl)
      have hsn := wr_snoc (sh.take k) x s
      rw [← htk] at hsn
      have HSN := Lib.hid hsn
      clear hx hxm htk hwk hll hpl hI2 hit2 hbw2 hbyte hsn
      cases hpc : plc x with
      | none =>
        rw [hpc] at hpx
        simp only [plV, Option.isSome_none] at hpx
        have hpcs : pcs x s = [x] := by unfold pcs; rw [hpc]
        have HP := Lib.hid hpx; have HPS := Lib.hid hpcs
        clear hpx hpc hpcs
        go_wp2_with fail
        refine HP.out.mono ?_
        rintro e W2 ⟨rfl, hb2⟩
        have hz2 : n0 + 1 + 1 < W2.heap.size := Nat.lt_of_lt_of_le hs2 hb2.size
        have hI3 := isB_below H2.out.1 hb2
        have hit3 := (hb2.block (n0 + 1 + 1) hs2).trans H2.out.2.1
        have hbw3 := H2.out.2.2.trans (hb2.mono (by omega))
        have hcall : ∀ W, Below W2.heap.size W2 W → Calls Tryz.prog 50 #[.pointer (some ⟨n0 + 1, 0, none⟩), .int .i32 (x.toNat : Int)] W fun e w' => (∃ y, e = .returned (.tuple #[y, .nilIface])) ∧ Bld.IsB (n0 + 1) (Tx.wr (sh.take (k + 1)) s) w' ∧ w'.heap[n0 + 1 + 1]? = some (.stringIter ⟨sh.toArray⟩ (k + 1)) ∧ Below (n0 + 1) w1 w' := fun W hb => by
          refine (Bld.wrune (n0 + 1) _ x HX.out.2.asc W (isB_below hI3 hb) (by have := HLN.out.1; omega)).mono ?_
          rintro e w' ⟨he, h1, h2⟩
          refine ⟨he, by rw [HSN.out, HPS.out]; exact h1, h2.oth.iter ((hb.block (n0 + 1 + 1) hz2).trans hit3) (by omega), (hbw3.trans (hb.mono (by omega))).trans h2.low⟩
        have HC := Lib.hid hcall
        clear hcall hI3 hit3 hbw3 hb2
        go_wp2_with fail
        refine (HC.out _ (by repeat' (first | exact Below.refl _ _ | exact Nat.le_refl _ | refine Below.setCell ?_ ?_ _ | refine Below.alloc ?_ ?_ _))).mono ?_
        rintro e W5 ⟨⟨y, rfl⟩, h1, h2, h3⟩
        have H5 := Lib.hid (And.intro h1 (And.intro h2 h3))
        clear h1 h2 h3
        go_wp2_with fail
        go_roundg (sh.length - (k + 1))
        case measure => omega
        case rel => exact ⟨k + 1, rfl, by omega, H5⟩
      | some p =>
        obtain ⟨hof, htm⟩ := plc_of hpc
        have hws := plc_ws hpc
        have hnum := HX.out.2.num p hpc
        rw [hpc] at hpx
        simp only [plV, Option.isSome_some] at hpx
        have hpcs : pcs x s = p.show s := by unfold pcs; rw [hpc]
        have hcell : (#[.int .i64 op, .int .i64 s.d, .int .i64 s.n, .int .i64 s.m, .int .i64 s.i] : Array Value)[1 + p.of]? = some (.int .i64 (s.get p.of)) := by
          have : p.of = 0 ∨ p.of = 1 ∨ p.of = 2 ∨ p.of = 3 := by omega
          rcases this with h | h | h | h <;> rw [h] <;> rfl
        have HP := Lib.hid hpx; have HPS := Lib.hid hpcs; have HCE := Lib.hid (And.intro hcell (And.intro hws hnum))
        clear hpx hpc hpcs hcell hws hnum
        go_wp2_with fail
        refine HP.out.mono ?_
        rintro e W2 ⟨rfl, hb2⟩
        have hz2 : n0 + 1 + 1 < W2.heap.size := Nat.lt_of_lt_of_le hs2 hb2.size
        have hI3 := isB_below H2.out.1 hb2
        have hit3 := (hb2.block (n0 + 1 + 1) hs2).trans H2.out.2.1
        have hbw3 := H2.out.2.2.trans (hb2.mono (by omega))
        have hshow : ∀ W, Below W2.heap.size W2 W → Calls Tryz.prog 49 #[.agg #[.pointer (some ⟨n0, 1 + p.of, none⟩), .string ⟨(joinW p.ws).toArray⟩, .string ⟨(if p.ws = [] then [p.mark] else []).toArray⟩, .int .i64 p.times]] W fun e w' => e = .returned (str (pcs x s)) ∧ Below W2.heap.size W2 w' := fun W hb => by
          have hbW := hbw3.trans (hb.mono (by omega : n0 + 1 ≤ W2.heap.size))
          have hc : W.cell? ⟨n0, 1 + p.of, none⟩ = some (.int .i64 (s.get p.of)) := (hbW.cell (p := ⟨n0, 1 + p.of, none⟩) (by show n0 < n0 + 1; omega)).trans ((HQ.out _).trans HCE.out.1)
          refine (showC p.of p.times p.ws p.mark HCE.out.2.1 n0 (s.get p.of) W (HLW.out W (HB1.out.trans (hbW.mono (by omega)))) hc htm HCE.out.2.2).mono ?_
          rintro e w' ⟨he, h1⟩
          exact ⟨by rw [he, HPS.out]; rfl, hb.trans (h1.mono hb.size)⟩
        have hcall : ∀ W, Below W2.heap.size W2 W → Calls Tryz.prog 9 #[.pointer (some ⟨n0 + 1, 0, none⟩), .string ⟨(pcs x s).toArray⟩] W fun e w' => (∃ y, e = .returned (.tuple #[y, .nilIface])) ∧ Bld.IsB (n0 + 1) (Tx.wr (sh.take (k + 1)) s) w' ∧ w'.heap[n0 + 1 + 1]? = some (.stringIter ⟨sh.toArray⟩ (k + 1)) ∧ Below (n0 + 1) w1 w' := fun W hb => by
          refine (Bld.wstr (n0 + 1) _ (pcs x s) W (isB_below hI3 hb) (by have := HLN.out; omega)).mono ?_
          rintro e w' ⟨he, h1, h2⟩
          refine ⟨he, by rw [HSN.out]; exact h1, h2.oth.iter ((hb.block (n0 + 1 + 1) hz2).trans hit3) (by omega), (hbw3.trans (hb.mono (by omega))).trans h2.low⟩
        have HC := Lib.hid hcall; have HSH := Lib.hid hshow
        clear hcall hI3 hit3 hbw3 hb2 hshow
        generalize (joinW p.ws).toArray = T1 at *
        generalize (if p.ws = [] then [p.mark] else []).toArray = T2 at *
        go_wp2_with fail
        refine (HSH.out _ (by repeat' (first | exact Below.refl _ _ | exact Nat.le_refl _ | refine Below.setCell ?_ ?_ _ | refine Below.alloc ?_ ?_ _))).mono ?_
        rintro e W4 ⟨rfl, hb4⟩
        have HB4 := Lib.hid hb4
        clear hb4
        go_wp2_with fail
        refine (HC.out _ HB4.out).mono ?_
        rintro e W5 ⟨⟨y, rfl⟩, h1, h2, h3⟩
        have H5 := Lib.hid (And.intro h1 (And.intro h2 h3))
        clear h1 h2 h3
        go_wp2_with fail
        go_roundg (sh.length - (k + 1))
        case measure => omega
        case rel => exact ⟨k + 1, rfl, by omega, H5⟩
    · obtain rfl : k = sh.length := by omega
      have hnx : ∀ ty, (Instr.next (.pointer (some ⟨n0 + 1 + 1, 0, none⟩)) true ty).run Tryz.prog wr = .ok (.tuple #[.bool false]) wr := fun ty =>
        run_next_end_at (P := Tryz.prog) wr (n0 + 1 + 1) ⟨sh.toArray⟩ sh.length ty HH.out.2.1 (by simp [ByteArray.size])
      have hstr := Tryz.Builder_String_any_k (n0 + 1) (n0 + 1) (Tx.wr sh s) wr (by have := HH.out.1; rw [List.take_length] at this; exact this) (by omega)
      have HS := Lib.hid hstr
      clear hstr
      go_wp2_with fail
      refine HS.out.mono ?_
      rintro e W5 ⟨rfl, _, hb5, _⟩
      have HB5 := Lib.hid hb5
      clear hb5
      go_wp2_with fail
      go_ret
      exact ⟨rfl, HN0.out ▸ (HB1.out.trans (HH.out.2.2.mono (by omega))).trans (HB5.out.mono (by omega))⟩
end Go.Proofs.YtnngnfajmncjpaaGreatDoor.Tx
