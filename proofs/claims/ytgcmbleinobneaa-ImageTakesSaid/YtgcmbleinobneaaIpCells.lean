/- DERIVED. Contracts of the program's reader: cells. By an AI agent. -/
import Derived.Test.YtgcmbleinobneaaIpCode
import Derived.Test.YtgcmbleinobneaaIpFind
namespace Go.Proofs.Ytgcmbleinobneaa.Ip
open Go.ChangeShapes Go.WideShapes Go.ChangeAt Go.RowKit Args ImRef
set_option linter.unusedVariables false
theorem own_upd {X : Nat → Prop} {w w' : World} {base : Nat} {e : TypeId} {size n : Nat} {v : Value} {xs : List Value} (h : w.ownsRow base e size v n xs) (hu : Upd X w w') (hX : ∀ g, base ≤ g → g < w.heap.size → ¬ X g) : w'.ownsRow base e size v n xs := by
  refine ⟨h.1, h.2.imp id fun ⟨g, cap, cur, e1, hb, hh, r⟩ => ⟨g, cap, cur, e1, hb, ?_, r⟩⟩
  have hl := (Array.getElem?_eq_some_iff.1 hh).1
  exact (hu.block g hl (hX g hb hl)).trans hh
/-- A row of cells of the call's own. -/
def OwnC (base : Nat) (w : World) (A : Option Addr) (c : Nat) (L : List TI) : Prop := w.ownsRow base 41 2 (.slice A L.length c) L.length (L.flatMap TI.cells)
theorem OwnC.upd {X : Nat → Prop} {base : Nat} {w w' : World} {A : Option Addr} {c : Nat} {L : List TI} (h : OwnC base w A c L) (hu : Upd X w w') (hX : ∀ g, base ≤ g → g < w.heap.size → ¬ X g) : OwnC base w' A c L := own_upd h hu hX
/-- How far cells has come: the rest's reading is the whole's, or the whole can't be read. -/
def Came (n : Nat) (Y : List Int) (k : Nat) (L : List TI) (ys : List Int) (e : Int) : Prop :=
  (e = 0 ∧ rdCells n Y = (rdCells (n - k) ys).bind fun p => some (L ++ p.1, p.2)) ∨ (e = 3 ∧ rdCells n Y = none)
theorem came_yes {n k : Nat} {Y ys y2 : List Int} {L : List TI} {c : TI} (h : Came n Y k L ys 0) (hk : k < n) (hc : rdCell ys = some (c, y2)) : Came n Y (k + 1) (L ++ [c]) y2 0 := by
  rcases h with ⟨_, h⟩ | ⟨h, _⟩
  · refine .inl ⟨rfl, ?_⟩
    rw [h, show n - k = (n - (k + 1)) + 1 by omega, rdCells, hc, Option.bind_some]
    cases rdCells (n - (k + 1)) y2 <;> simp
  · exact absurd h (by decide)
theorem came_no {n k : Nat} {Y ys : List Int} {L : List TI} {e : Int} (h : Came n Y k L ys e) (hk : k < n) (hc : e = 0 → rdCell ys = none) (L' : List TI) (ys' : List Int) : Came n Y (k + 1) L' ys' 3 := by
  rcases h with ⟨he, h⟩ | ⟨_, h⟩
  · refine .inr ⟨rfl, ?_⟩
    rw [h, show n - k = (n - (k + 1)) + 1 by omega, rdCells, hc he]; rfl
  · exact .inr ⟨rfl, h⟩
theorem rdCell_at (ys : List Int) (k : Int) (hk : numL (ys.take 1) = k) (h1 : 1 ≤ ys.length) : rdCell ys = (rdName k.toNat (ys.drop 1)).bind fun q => (rdNum 4 q.2).bind fun t => some (⟨q.1, t.1⟩, t.2) := by
  unfold rdCell rdNum
  rw [if_neg (by omega), hk]; rfl
theorem pcn_first (ys : List Int) : pcn (ys.take 4) 4 0 = numL (ys.take 4) := by
  unfold pcn pcl
  rw [Nat.zero_mul, List.drop_zero, List.take_take]; rfl
theorem str_nil : strOfNums [] = ⟨#[]⟩ := rfl
/-- What cells hands back. -/
def CellsP (n₀ : Nat) (w : World) (r : Nat) (P : List TI → List Int → Int → Prop) (en : Ending) (w' : World) : Prop :=
  ∃ A c L ys e, en = .returned (.slice A L.length c) ∧ OwnC w.heap.size w' A c L ∧ L.length ≤ 255 ∧ (∀ x ∈ L, x.s.size ≤ 255) ∧ Rdr n₀ w' r ys e ∧ Upd (· = r) w w' ∧ P L ys e
set_option maxHeartbeats 2000000 in
theorem cells_no (n₀ r : Nat) (ys : List Int) (e : Int) (w : World) (hR : Rdr n₀ w r ys e) (h : e ≠ 0 ∨ (ys.length : Int) < 1) :
    Calls Try.prog 30 #[.pointer (some ⟨r, 0, none⟩)] w (CellsP n₀ w r fun L ys' e' => L = [] ∧ e' = failE e 3) := by
  have hu0 := (Upd.refl (fun _ => False) w).alloc (.cells #[] 41)
  have HC := Lib.hid (cut_no n₀ r ys e 1 _ (hR.upd hu0 (fun _ h => h.elim) (fun h => h)) h)
  have HO := Lib.hid (own_empty w (Nat.le_refl w.heap.size) 41 2)
  have hrl := hR.facts.2.2.2
  clear hR h hu0
  go_enter Try.func30, Try.ntmps30
  go_wp2_with fail
  refine HC.out.mono ?_
  rintro en w1 ⟨rfl, h1, h2⟩
  have HR1 := Lib.hid h1; have HU1 := Lib.hid h2
  clear h1 h2
  go_wp2_with fail
  refine (number_none _).mono ?_
  rintro en w' ⟨rfl, rfl⟩
  go_wp2_with fail
  go_loop [3, 9] (fun vl vi => vl = .slice (some ⟨w.heap.size, 0, none⟩) 0 0 ∧ vi = .int .u32 0) (fun _ _ => 0)
  case atStart => exact ⟨rfl, rfl⟩
  case round =>
    obtain ⟨rfl, rfl⟩ := hrel
    go_wp2_with fail
    go_ret
    refine ⟨_, _, [], ys, failE e 3, rfl, ?_, by decide, nofun, HR1.out, ((Upd.refl (· = r) w).alloc _).trans HU1.out, rfl, rfl⟩
    exact own_upd HO.out HU1.out fun g h1 h2 => by omega
end Go.Proofs.Ytgcmbleinobneaa.Ip
