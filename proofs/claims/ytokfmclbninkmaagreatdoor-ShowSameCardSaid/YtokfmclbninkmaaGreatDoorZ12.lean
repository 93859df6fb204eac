/- DERIVED. ShTb, ShRn in one text. By an AI agent. -/
import Derived.Test.YtokfmclbninkmaaGreatDoorRows
import Derived.Test.YtokfmclbninkmaaGreatDoorZ11
import Derived.ProofKit
import Derived.LaidMore
import Derived.LaidLaws
import Derived.OpenShut
import Derived.MakeChecks
import Derived.Lib.LaidTab
import Derived.Lib.LaidU8
import Derived.Shelf.Vars
import Derived.Stop.Joined
import Derived.Lay
import Derived.Test.YtokfmclbninkmaaGreatDoorZ10
import Derived.BigQuiet
import Derived.Laws.DeepStrings4
import Derived.Laws.Strings3
/- DERIVED. What the rows' listed tables give, and a start for the witness. By an AI agent. -/
namespace Go.Proofs.YtokfmclbninkmaaGreatDoor.Sh
open Go.ChangeShapes Go.WideShapes Go.ChangeAt Go.RowKit Go.Lib
set_option linter.unusedVariables false
theorem tPw : (Tryz.prog.globals[0]?).map (fun x => x.type) = some 123 := by kernel_rfl
theorem gPw : Tryz.prog.globalNamed "internal/strconv.uint64pow10" = some 0 := by kernel_rfl
theorem tab_of {W : World} {n : String} {d : DataW Unit} {g : Nat} {t e : TypeId} {m : Nat} {k : IntKind} {zs : List Int} (hr : VarReads Tryz.prog W n d) (hg : Tryz.prog.globalNamed n = some g) (hty : (Tryz.prog.globals[g]?).map (fun x => x.type) = some t)
    (ht : Tryz.prog.underlying t = some (.array m e)) (he : Tryz.prog.underlying e = some (.int k)) (hce : Tryz.prog.cellsOf e = 1) (hct : Tryz.prog.cellsOf t = m) (hd : d = tabData k zs) : TabIs Tryz.prog W n k zs := by
  obtain ⟨g', t', cs, fuel, p, hg', ht', hv, hr⟩ := hr
  obtain rfl := Option.some.inj (hg.symm.trans hg')
  obtain rfl := Option.some.inj (hty.symm.trans ht')
  subst hd
  unfold TabIs
  rw [hv, ← cells_of_tab ht he hce hct hr]
theorem tabP_of {W : World} (h : laidMetH Tryz.prog Rows.showExprsUptoRow.laid W) : Wr.TabP W := by
  rw [MakeChecks.laidMetH_plain _ _ _ (by kernel_rfl)] at h
  have hp := laidMet.reads (n := "internal/strconv.uint64pow10") (d := Rows.laid_internal_strconv_uint64pow10) h (by simp [Rows.showExprsUptoRow])
  exact tab_of hp gPw tPw Tryz.underlying123 Tryz.underlying72 (by kernel_rfl) (by kernel_rfl) (by kernel_rfl)
/-- A start that fits, its tables laid. -/
theorem witRow {H : Type} {enc : TypeId × Value → H} {C : Checked} {os : Os} {f : FuncId} {fn : Func} {s : OpenSpec} {conds : List PathCond} {apart : Bool} {laid : List (String × DataW Unit)} (modest : Bool) (w0 : World) (args : Array Value) (hos : w0.os = os)
    (hsh : (w0.forCall (fun _ _ => 0) ⟨#[], args, []⟩).Shaped C.prog)
    (hok : Input.okWideB C.prog (w0.forCall (fun _ _ => 0) ⟨#[], args, []⟩) f ⟨#[], args, []⟩ = true)
    (hrow : s.preRow enc C.prog fn conds apart laid (w0.forCall (fun _ _ => 0) ⟨#[], args, []⟩).memory args) :
    ∃ (w : World) (tape : Tape) (i : Input), w.os = os ∧ (w.forCall tape i).Shaped C.prog ∧ i.vars = [] ∧ Input.okWide C.prog (w.forCall tape i) .any w.heap.size f i ∧
      s.preRow enc C.prog fn conds apart laid (w.forCall tape i).memory i.args ∧ ({ modest := modest } : Assume).holds C.prog (lone (Frame.enter C.prog f i.args .normal) [] (w.forCall tape i)) :=
  ⟨w0, fun _ _ => 0, ⟨#[], args, []⟩, hos, hsh, (Input.okWide_of_okWideB (base := 0) hok).1, (Input.okWide_of_okWideB hok).2, hrow, by
    simp only [Assume.holds]
    exact ⟨by simp, by simp, fun _ => Modest.zero, by simp, by simp⟩⟩
end Go.Proofs.YtokfmclbninkmaaGreatDoor.Sh
/- DERIVED. The reference's numerals, and names with commas between. By an AI agent. -/
namespace Go.Proofs.YtokfmclbninkmaaGreatDoor.Rt
open Go Go.ChangeShapes Go.WideShapes Go.ChangeAt Go.RowKit Lx Args Pa Sh Wr
set_option linter.unusedVariables false
set_option linter.unusedSimpArgs false
abbrev str (l : Bs) : Value := .string ⟨l.toArray⟩
def D10 : ByteArray := ⟨#[48, 49, 50, 51, 52, 53, 54, 55, 56, 57]⟩
theorem d10_at (r : Nat) (hr : r < 10) : D10.extract r (r + 1) = ⟨(dec r).toArray⟩ := by
  show _ = (⟨(Lib.decDigits r).toArray⟩ : ByteArray)
  rw [Lib.decDigits_one hr]
  have : ∀ i : Fin 10, D10.extract i.val (i.val + 1) = ⟨#[UInt8.ofNat (48 + i.val)]⟩ := by decide
  exact this ⟨r, hr⟩
theorem str_app (a b : Bs) : (⟨a.toArray⟩ : ByteArray) ++ ⟨b.toArray⟩ = ⟨(a ++ b).toArray⟩ := by
  apply ByteArray.ext
  rw [ByteArray.data_append]
  simp
theorem dec_len (n : Nat) (h : n < 4294967296) : (dec n).length ≤ 20 := by
  show (Lib.decDigits n).length ≤ 20
  have h1 := Lib.decDigits_length n
  by_cases h0 : n < 10
  · rw [Lib.decDigits_one h0]; simp
  · have h2 : Lib.nDigits n ≤ 20 := by have := Lib.numDigits_eq n (by omega) (by omega); split at this <;> omega
    omega
set_option maxRecDepth 20000 in
set_option maxHeartbeats 800000 in
theorem num_nat (k : Nat) : ∀ (u : Nat) (w : World), u ≤ k → u < 4294967296 → Calls Tryz.prog 48 #[.int .i64 (u : Int)] w fun e w' => e = .returned (str (dec u)) ∧ w = w' := by
  induction k with
  | zero =>
    intro u w hk hu
    obtain rfl : u = 0 := by omega
    clear hk hu
    have hx := Lib.hid (d10_at 0 (by decide))
    go_enter Tryz.func48, Tryz.ntmps48
    go_wp2_with fail
    go_ret
    exact ⟨congrArg (fun x => Ending.returned (.string x)) hx.out, rfl⟩
  | succ k ih =>
    intro u w hk hu
    by_cases hn : u < 10
    · have hx := Lib.hid (d10_at u hn)
      clear ih hk hu
      go_enter Tryz.func48, Tryz.ntmps48
      go_wp2_with fail
      go_ret
      exact ⟨congrArg (fun x => Ending.returned (.string x)) hx.out, rfl⟩
    · have i1 := fun w => ih (u / 10) w (by omega) (by omega)
      have i2 := fun w => ih (u % 10) w (by omega) (by omega)
      have hd : dec u = dec (u / 10) ++ dec (u % 10) := by
        show Lib.decDigits u = Lib.decDigits (u / 10) ++ Lib.decDigits (u % 10)
        rw [Lib.decDigits, dif_neg hn, Lib.decDigits_one (by omega : u % 10 < 10)]
      have l1 := dec_len (u / 10) (by omega)
      have l2 := dec_len (u % 10) (by omega)
      generalize dec (u / 10) = L1 at *
      generalize dec (u % 10) = L2 at *
      have HD := Lib.hid hd; have I1 := Lib.hid i1; have I2 := Lib.hid i2; have IH := Lib.hid ih
      clear hd i1 i2 ih
      go_enter Tryz.func48, Tryz.ntmps48
      go_wp2_with fail
      refine (I1.out _).mono ?_; rintro e w' ⟨rfl, rfl⟩
      go_wp2_with fail
      refine (I2.out _).mono ?_; rintro e w' ⟨rfl, rfl⟩
      go_wp2_with fail
      go_ret
      exact ⟨by rw [HD.out]; exact congrArg (fun x => Ending.returned (.string x)) (str_app _ _), rfl⟩
theorem size_str (l : Bs) : (⟨l.toArray⟩ : ByteArray).size = l.length := by simp [ByteArray.size]
theorem bs_eq {S : ByteArray} {l : Bs} (h : S.data.toList = l) : S = ⟨l.toArray⟩ := by
  subst h
  simp
theorem size_data (S : ByteArray) : S.size = S.data.toList.length := by
  show S.data.size = S.data.toList.length
  exact Array.length_toList.symm
set_option maxRecDepth 100000 in
set_option maxHeartbeats 2000000 in
theorem namesR (A : Option Addr) (c : Nat) (ps : List Bs) (w : World) (hL : Lies w A (ps.map strV)) (hl : ps.length ≤ maxLen) (hB : (naT true ps).length ≤ 1099511627776) :
    Calls Tryz.prog 38 #[.slice A ps.length c] w fun e w' => e = .returned (str (naT true ps)) ∧ Below w.heap.size w w' := by
  have hlm : ps.length ≤ 9223372036854775807 := hl
  obtain ⟨tot, htot⟩ : ∃ tot, naT true ps = tot := ⟨_, rfl⟩
  rw [htot] at hB ⊢
  have HL := Lib.hid hL; have HT := Lib.hid htot; have HB := Lib.hid hB
  clear hL hl htot hB
  go_enter Tryz.func38, Tryz.ntmps38
  go_wp2_with fail
  go_loopw [3, 4] (fun vs vi wr => ∃ (i : Nat) (S : ByteArray), i ≤ ps.length ∧ vs = .string S ∧ vi = .int .i64 (i : Int) ∧ Hid (Below w.heap.size w wr) ∧ Hid (S.data.toList ++ naT (decide (i = 0)) (ps.drop i) = tot)) (fun _ vi _ => ps.length - (intOf vi).toNat)
  case atStart => exact ⟨0, ⟨#[]⟩, by omega, rfl, rfl, Lib.hid (Below.refl _ _), Lib.hid (by simpa using HT.out)⟩
  case round =>
    obtain ⟨i, S, hi, rfl, rfl, HH, HQ⟩ := hrel
    by_cases hlt : i < ps.length
    · obtain ⟨p, hp⟩ : ∃ p, ps[i]? = some p := ⟨_, List.getElem?_eq_getElem hlt⟩
      have f1 : (ps.map strV)[i]? = some (.string ⟨p.toArray⟩) := by rw [List.getElem?_map, hp]; rfl
      obtain ⟨b, o, rfl, _, hc1⟩ := (HL.out.below HH.out).at_ f1
      have e1 := hc1 _ _ f1
      have hq := HQ.out
      rw [drop_at hp, naT_cons] at hq
      have hlen := congrArg List.length hq
      simp only [List.length_append] at hlen
      have hBB := HB.out
      have hss := size_data S
      have HI1 := Lib.hid (show decide (i + 1 = 0) = false from decide_eq_false (by omega))
      clear hc1 f1 hp HQ
      by_cases hi0 : i = 0
      · have i1 : decide (0 < i) = false := by simp; omega
        rw [decide_eq_true hi0] at hq
        have q1 : ¬ (9223372036854775807 < S.size + p.length) := by omega
        have HQ2 := Lib.hid hq
        clear hi0 hq hlen hss
        go_wp2_with fail
        go_roundw
        case rel => exact ⟨i + 1, S ++ ⟨p.toArray⟩, by omega, rfl, by go_num, HH, Lib.hid (by have := HQ2.out; rw [HI1.out, ByteArray.data_append]; simpa using this)⟩
        case measure => simp [intOf]; omega
      · have i1 : decide (0 < i) = true := by simp; omega
        rw [decide_eq_false hi0] at hq hlen
        simp only [Bool.false_eq_true, if_false, List.length_cons, List.length_nil] at hlen
        have hz1 : (S ++ ⟨#[44, 32]⟩).size = S.size + 2 := by rw [ByteArray.size_append]; rfl
        have q0 : ¬ (9223372036854775807 < S.size + 2) := by omega
        have q1 : ¬ (9223372036854775807 < S.size + 2 + p.length) := by omega
        have HQ2 := Lib.hid hq
        clear hi0 hq hlen hss
        go_wp2_with fail
        go_roundw
        case rel => exact ⟨i + 1, S ++ ⟨#[44, 32]⟩ ++ ⟨p.toArray⟩, by omega, rfl, by go_num, HH, Lib.hid (by have := HQ2.out; rw [HI1.out, ByteArray.data_append, ByteArray.data_append]; simpa using this)⟩
        case measure => simp [intOf]; omega
    · obtain rfl : i = ps.length := by omega
      have hq := HQ.out
      rw [List.drop_length, show naT (decide (ps.length = 0)) [] = [] from rfl, List.append_nil] at hq
      have HQ2 := Lib.hid hq
      clear hq
      go_wp2_with fail
      go_ret
      exact ⟨by rw [bs_eq HQ2.out]; rfl, HH.out⟩
end Go.Proofs.YtokfmclbninkmaaGreatDoor.Rt
