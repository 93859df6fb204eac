/- DERIVED. Contracts of the reference's Bits and Word. By an AI agent. -/
import Derived.Test.YtkipfeljpngkeaaDoorWalks
import Derived.OwnWalk
import Derived.WalkSmall
import Derived.Laws.AppendOwn
namespace Go.Proofs.YtkipfeljpngkeaaDoor.Ref
open Go.ChangeShapes Go.WideShapes Go.ChangeAt Go.RowKit WMath Word
set_option linter.unusedVariables false
/-- The first k bits of a word, the lowest first. -/
def bitsTo (a : BitVec 32) (k : Nat) : List Bool := (List.range k).map a.getLsbD
theorem bitsTo_len (a : BitVec 32) (k : Nat) : (bitsTo a k).length = k := by simp [bitsTo]
theorem bitsTo_snoc (a : BitVec 32) (k : Nat) : bitsTo a (k + 1) = bitsTo a k ++ [a.getLsbD k] := by
  unfold bitsTo; rw [List.range_succ, List.map_append]; rfl
theorem bit_of (a : BitVec 32) (k n : Nat) (hn : n = a.toNat / 2 ^ k) : ((n : Int) % 2 == 1) = a.getLsbD k := by
  rw [← BitVec.testBit_toNat, Nat.testBit_eq_decide_div_mod_eq, ← hn, Bool.eq_iff_iff]
  simp; omega
/-- The boolean cells of a list. -/
def bvals (l : List Bool) : List Value := l.map Value.bool
theorem infoB : (Tryd.prog.info? 4).map (fun i => (i.zero, i.size, i.bytes)) = some (some (.bool false), 1, 1) := by kernel_rfl
/-- One boolean is appended to a row of the call's own. -/
theorem app_bool {ops : Array Oper} {rest : List Oper} {o : Oper} {a : Act} {Q : Exit → Act → World → Prop} {W0 w : World} (hgd : o.guard = none) (s x : Operand)
    (ho : o.op = .call { callee := .builtin .append, args := #[s, x], argTypes := #[84, 84] })
    (v : Value) (k : Nat) (xs : List Bool) (hs : a.eval s = v) {base : Nat} (hown : w.ownsRow base 4 1 v k (bvals xs)) (hb : Below base W0 w) (hB : base ≤ W0.heap.size) (b : Bool)
    (hx : a.eval x = .slice (some ⟨w.heap.size, 0, none⟩) 1 1) (hk : k < 1000)
    (h : ∀ v' w', w'.ownsRow base 4 1 v' (k + 1) (bvals (xs ++ [b])) → Below base W0 w' → wpList Tryd.prog ops Q rest (a.put o.dst v') w') :
    wpList Tryd.prog ops Q (o :: rest) a (w.alloc (.cells #[.bool b] 4)) := by
  obtain ⟨i0, hi, hz0, hz1, hz2⟩ := info_parts infoB
  have hbs := hb.size
  refine wpList_append_own _ hgd s x 84 ho base 4 i0 (.bool false) 1 1 Tryd.underlying84 hi hz0 hz1 hz2 rfl (by decide) v k (bvals xs) hs (hown.alloc _) ⟨w.heap.size, 0, none⟩ 1 1 [.bool b] hx rfl ?_ ?_ (by unfold maxLen; omega) (by omega) (by simp; omega) ?_
  · intro j u hj
    match j, hj with
    | 0, hj =>
      simp at hj; subst hj
      show (w.alloc _).cell? ⟨w.heap.size, 0 + 0, none⟩ = _
      rw [World.cell?_alloc_at _ _ _ _ rfl]; rfl
    | j + 1, hj => simp at hj
  · intro u hu; simp at hu; subst hu; rfl
  · intro v' w' h1 h2 _
    refine h v' w' (by simpa [bvals] using h1) ((hb.alloc (by omega) _).grown h2 (by simp; omega) (fun k hk => (hown.lt k hk).1))
set_option maxHeartbeats 800000 in
theorem bitsC (a : BitVec 32) (w : World) :
    Calls Tryd.prog 43 #[u a] w fun e w' => ∃ g cap, e = .returned (.slice (some ⟨g, 0, none⟩) 32 cap) ∧ 32 ≤ cap ∧ cap ≤ maxLen ∧ w.heap.size ≤ g ∧ g < w'.heap.size ∧ (∀ j, j < 32 → w'.cell? ⟨g, j, none⟩ = some (.bool (a.getLsbD j))) ∧ Below w.heap.size w w' := by
  have h2 := bd a
  go_enter Tryd.func43, Tryd.ntmps43
  go_wp2
  go_loopw [0, 3, 4] (fun va v vi wr => ∃ (k n : Nat), k ≤ 32 ∧ vi = .int .i64 k ∧ va = .int .u32 n ∧ Hid (n = a.toNat / 2 ^ k) ∧ wr.ownsRow w.heap.size 4 1 v k (bvals (bitsTo a k)) ∧ Below w.heap.size w wr) (fun _ _ vi _ => 32 - (intOf vi).toNat)
  case atStart => exact ⟨0, a.toNat, by omega, rfl, rfl, Lib.hid (by simp), World.ownsRow_lit w #[] 0 (Nat.le_refl _) (by decide) rfl, (Below.refl _ _).alloc (Nat.le_refl _) _⟩
  case round =>
    obtain ⟨k, n, hk, rfl, rfl, HN, hown, hb⟩ := hrel
    have HB := Lib.hid hb
    have HO := Lib.hid hown
    clear hb hown h2
    have hn : n < 4294967296 := by have := HN.out; have := Nat.div_le_self a.toNat (2 ^ k); omega
    by_cases hlt : k < 32
    · go_wp2_with (at_builtin; refine app_bool rfl _ _ rfl _ k (bitsTo a k) rfl HO.out HB.out (Nat.le_refl _) ((n : Int) % 2 == 1) rfl (by omega) ?_; intro v' w' hown' hb')
      have hbit := bit_of a k n HN.out
      rw [hbit, ← bitsTo_snoc] at hown'
      go_roundw
      case rel => exact ⟨k + 1, n / 2, by omega, by go_num, rfl, Lib.hid (by rw [HN.out, Nat.pow_succ, Nat.div_div_eq_div_mul]), hown', hb'⟩
      case measure => simp [intOf]; omega
    · go_wp2
      have : k = 32 := by omega
      subst this
      have hown := HO.out
      go_ret
      rcases hown.2 with ⟨_, h0⟩ | ⟨g, cap, cur, rfl, hg, hgg, hcap, hmx, _, _⟩
      · omega
      · have hc := fun j (hj : j < 32) => World.ownsRow.cellAt hown j (by omega)
        have hg2 : g < wr.heap.size := by have := (hown.lt g rfl).2; exact this
        refine ⟨g, cap, rfl, hcap, hmx, hg, hg2, fun j hj => ?_, HB.out⟩
        rw [hc j hj]
        simp [bvals, bitsTo, hj]
theorem half_lt (x : BitVec 32) (m n : Nat) (hn : n = x.toNat / 2 ^ (m + 1)) : n < 2147483648 := by
  have h1 := x.isLt
  rw [Nat.pow_succ, Nat.mul_comm, ← Nat.div_div_eq_div_mul] at hn
  have h2 := Nat.div_le_self (x.toNat / 2) (2 ^ m)
  omega
theorem word_step (x : BitVec 32) (m n : Nat) (b : Bool) (hn : n = x.toNat / 2 ^ (m + 1)) (hb : x.getLsbD m = b) : n * 2 + b.toNat = x.toNat / 2 ^ m := by
  rw [Nat.pow_succ, ← Nat.div_div_eq_div_mul] at hn
  rw [← BitVec.testBit_toNat, Nat.testBit_eq_decide_div_mod_eq] at hb
  subst hb
  generalize x.toNat / 2 ^ m = q at *
  by_cases h : q % 2 = 1 <;> simp [h] <;> omega
set_option maxHeartbeats 800000 in
theorem wordC (x : BitVec 32) (g cap : Nat) (w : World) (hcap : 32 ≤ cap) (hc : ∀ j, j < 32 → w.cell? ⟨g, j, none⟩ = some (.bool (x.getLsbD j))) :
    Calls Tryd.prog 44 #[.slice (some ⟨g, 0, none⟩) 32 cap] w fun e w' => e = .returned (u x) ∧ w = w' := by
  have HC := Lib.hid hc
  clear hc
  go_enter Tryd.func44, Tryd.ntmps44
  go_wp2
  go_loop [3, 4] (fun va vi => ∃ (k n : Nat), k ≤ 32 ∧ vi = .int .i64 ((k : Int) - 1) ∧ va = .int .u32 n ∧ Hid (n = x.toNat / 2 ^ k)) (fun _ vi => (intOf vi + 1).toNat)
  case atStart => exact ⟨32, 0, by omega, rfl, rfl, Lib.hid (by have := x.isLt; rw [Nat.div_eq_of_lt (by omega)])⟩
  case round =>
    obtain ⟨k, n, hk, rfl, rfl, HN⟩ := hrel
    cases k with
    | zero =>
      go_wp2
      go_ret
      have h := HN.out
      rw [Nat.pow_zero, Nat.div_one] at h
      exact ⟨by rw [h]; rfl, rfl⟩
    | succ m =>
      have hcell := HC.out m (by omega)
      have hn : n < 2147483648 := half_lt x m n HN.out
      cases hbit : x.getLsbD m
      all_goals
        rw [hbit] at hcell
        have hst := word_step x m n _ HN.out hbit
        have HS := Lib.hid hst
        have HBT := Lib.hid hbit
        clear hst hbit
        go_wp2
        go_round
        case rel => exact ⟨m, _, by omega, by go_num, rfl, Lib.hid (by rw [← HS.out]; rfl)⟩
        case measure => simp [intOf]
end Go.Proofs.YtkipfeljpngkeaaDoor.Ref
