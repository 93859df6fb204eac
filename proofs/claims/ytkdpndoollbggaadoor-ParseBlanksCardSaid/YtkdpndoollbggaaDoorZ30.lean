/- DERIVED. LxRes in one text. By an AI agent. -/
import Derived.Test.YtkdpndoollbggaaDoorZ06
import Derived.Laws.Rows
import Derived.WalkKit
/- DERIVED. Of no program: what a function hands back whose results lie in cells. By an AI agent. -/
namespace Go.Proofs.YtkdpndoollbggaaDoor.Args
open Go Go.RowKit
theorem loadVar_plain {P : Program} {w : World} {ty : TypeId} {p : Addr} {v : Value} (ha : (isAgg ty).run P w = .ok false w) (hc : w.cell? p = some v) : (loadVar ty p).run P w = .ok v w := by
  unfold loadVar
  rw [Sem.run_bind, ha]
  simp only [Result.andThen]
  simp [load, Sem.run, hc]
theorem results_ct {fn : Func} {p u : Tmp} {ty : TypeId} (h : fn.results = #[.cell p ty, .tmp u]) {P : Program} (tmps : Array Value) (w : World) (g : Nat) (v : Value)
    (hp : tmps.getD p undef = .pointer (some ⟨g, 0, none⟩)) (hL : (loadVar ty ⟨g, 0, none⟩).run P w = .ok v w) :
    (results fn tmps).run P w = .ok (.tuple #[v, tmps.getD u undef]) w := by
  have hp' : tmps[p]?.getD undef = .pointer (some ⟨g, 0, none⟩) := by simpa using hp
  simp [results, h, hp', asAddr, hL]
theorem results_cc {fn : Func} {p q : Tmp} {ty tz : TypeId} (h : fn.results = #[.cell p ty, .cell q tz]) {P : Program} (tmps : Array Value) (w : World) (g g2 : Nat) (v v2 : Value)
    (hp : tmps.getD p undef = .pointer (some ⟨g, 0, none⟩)) (hq : tmps.getD q undef = .pointer (some ⟨g2, 0, none⟩))
    (hL : (loadVar ty ⟨g, 0, none⟩).run P w = .ok v w) (hM : (loadVar tz ⟨g2, 0, none⟩).run P w = .ok v2 w) :
    (results fn tmps).run P w = .ok (.tuple #[v, v2]) w := by
  have hp' : tmps[p]?.getD undef = .pointer (some ⟨g, 0, none⟩) := by simpa using hp
  have hq' : tmps[q]?.getD undef = .pointer (some ⟨g2, 0, none⟩) := by simpa using hq
  simp [results, h, hp', hq', asAddr, hL, hM]
theorem results_ccc {fn : Func} {p q r : Tmp} {tx ty tz : TypeId} (h : fn.results = #[.cell p tx, .cell q ty, .cell r tz]) {P : Program} (tmps : Array Value) (w : World) (g1 g2 g3 : Nat) (v1 v2 v3 : Value)
    (hp : tmps.getD p undef = .pointer (some ⟨g1, 0, none⟩)) (hq : tmps.getD q undef = .pointer (some ⟨g2, 0, none⟩)) (hr : tmps.getD r undef = .pointer (some ⟨g3, 0, none⟩))
    (h1 : (loadVar tx ⟨g1, 0, none⟩).run P w = .ok v1 w) (h2 : (loadVar ty ⟨g2, 0, none⟩).run P w = .ok v2 w) (h3 : (loadVar tz ⟨g3, 0, none⟩).run P w = .ok v3 w) :
    (results fn tmps).run P w = .ok (.tuple #[v1, v2, v3]) w := by
  have hp' : tmps[p]?.getD undef = .pointer (some ⟨g1, 0, none⟩) := by simpa using hp
  have hq' : tmps[q]?.getD undef = .pointer (some ⟨g2, 0, none⟩) := by simpa using hq
  have hr' : tmps[r]?.getD undef = .pointer (some ⟨g3, 0, none⟩) := by simpa using hr
  simp [results, h, hp', hq', hr', asAddr, h1, h2, h3]
end Go.Proofs.YtkdpndoollbggaaDoor.Args
