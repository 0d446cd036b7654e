/-
  THE FRAME OF THE ROWS, more of it: fractions opened and shut.
-/
import Derived.Test.YtnbchhjanlpdlaaDoorFrame
namespace Go.Proofs.YtnbchhjanlpdlaaDoor
open Go Go.ChangeShapes Go.WideShapes Go.ChangeAt Go.RowKit Go.Joins

theorem cellsF : Tryd.prog.cellsOf 41 = 4 := by kernel_rfl
section
variable {H : Type} {enc : TypeId × Value → H} {W : World} {sp : Nat → Bool}
set_option maxRecDepth 100000 in
theorem open_wl {base : Nat} {held : Bool} {n : Nat} {c0 c1 : Value} {y : DataW H × List MemPlace} (h : DataW.trod enc Tryd.prog W base sp held n 24 [c0, c1] = some y) :
    ∃ a : U, c0 = .int .u64 (hiZ a) ∧ c1 = .int .u64 (loZ a) ∧ y = (.agg [.lit (.int .u64 (hiZ a)), .lit (.int .u64 (loZ a))], []) := by
  obtain ⟨y0, y1, m, hx, _, h0, h1⟩ := trod_struct2 Tryd.underlying24 h
  have h0' : DataW.trod enc Tryd.prog W base sp held m 22 [c0] = some y0 := by simpa [tabE] using h0
  have h1' : DataW.trod enc Tryd.prog W base sp held m 22 [c1] = some y1 := by simpa [tabE] using h1
  obtain ⟨x, e0, rfl, wx⟩ := DataW.trod_int Tryd.underlying22 h0'
  obtain ⟨z, e1, rfl, wz⟩ := DataW.trod_int Tryd.underlying22 h1'
  simp at e0 e1
  subst e0 e1
  obtain ⟨x0, x1⟩ := wf_u64 wx
  obtain ⟨z0, z1⟩ := wf_u64 wz
  obtain ⟨a, rfl, rfl, _⟩ := U.of_halves x z x0 x1 z0 z1
  exact ⟨a, rfl, rfl, by simpa using hx⟩
set_option maxRecDepth 100000 in
theorem shut_wl (a : U) {base : Nat} {held : Bool} : ∃ n, DataW.trod enc Tryd.prog W base sp held n 24 [.int .u64 (hiZ a), .int .u64 (loZ a)] = some (.agg [.lit (.int .u64 (hiZ a)), .lit (.int .u64 (loZ a))], []) := by
  obtain ⟨n, h⟩ := shut_wide (enc := enc) (W := W) (sp := sp) a (base := base) (held := held)
  exact ⟨n, by simpa [Value.cells] using h⟩
set_option maxRecDepth 100000 in
/-- A fraction that came in, opened. -/
theorem open_frac {r : Reach} {b0 base : Nat} {held : Bool} {v : Value} {d : DataW H} {p : List MemPlace} (hv : Value.okWide Tryd.prog W r b0 41 v) (h : DataW.Trod enc Tryd.prog W base sp held 41 v d p) :
    ∃ a b : U, v = .agg #[.int .u64 (hiZ a), .int .u64 (loZ a), .int .u64 (hiZ b), .int .u64 (loZ b)] ∧
      d = .agg [.agg [.lit (.int .u64 (hiZ a)), .lit (.int .u64 (loZ a))], .agg [.lit (.int .u64 (hiZ b)), .lit (.int .u64 (loZ b))]] ∧ p = [] := by
  obtain ⟨cs, rfl, hsz⟩ := okWide_struct Tryd.underlying41 hv
  obtain ⟨c0, c1, c2, c3, rfl⟩ := array4 (hsz.trans cellsF)
  obtain ⟨fuel, hf⟩ := h
  obtain ⟨y0, y1, n, hx, _, h0, h1⟩ := trod_struct2 Tryd.underlying41 hf
  have h0' : DataW.trod enc Tryd.prog W base sp held n 24 [c0, c1] = some y0 := by simpa [Value.cells, cellsW] using h0
  have h1' : DataW.trod enc Tryd.prog W base sp held n 24 [c2, c3] = some y1 := by simpa [Value.cells, cellsW] using h1
  obtain ⟨a, rfl, rfl, rfl⟩ := open_wl h0'
  obtain ⟨b, rfl, rfl, rfl⟩ := open_wl h1'
  simp only [Prod.mk.injEq] at hx
  exact ⟨a, b, rfl, hx.1, by simpa using hx.2⟩
set_option maxRecDepth 100000 in
/-- .. and shut, in any world. -/
theorem shut_frac (a b : U) {base : Nat} {held : Bool} : DataW.Trod enc Tryd.prog W base sp held 41 (.agg #[.int .u64 (hiZ a), .int .u64 (loZ a), .int .u64 (hiZ b), .int .u64 (loZ b)])
    (.agg [.agg [.lit (.int .u64 (hiZ a)), .lit (.int .u64 (loZ a))], .agg [.lit (.int .u64 (hiZ b)), .lit (.int .u64 (loZ b))]]) [] := by
  obtain ⟨n0, t0⟩ := shut_wl (enc := enc) (W := W) (sp := sp) a (base := base) (held := held)
  obtain ⟨n1, t1⟩ := shut_wl (enc := enc) (W := W) (sp := sp) b (base := base) (held := held)
  have ts := trod_struct2_mk (enc := enc) (w := W) (base := base) (spare := sp) (held := held) (n := max n0 n1) (cs := [.int .u64 (hiZ a), .int .u64 (loZ a), .int .u64 (hiZ b), .int .u64 (loZ b)]) Tryd.underlying41 (by simp [cellsF])
    (by simpa [cellsW] using DataW.trod_le (Nat.le_max_left n0 n1) t0) (by simpa [cellsW] using DataW.trod_le (Nat.le_max_right n0 n1) t1)
  exact ⟨_, by simpa [Value.cells] using ts⟩
end
end Go.Proofs.YtnbchhjanlpdlaaDoor
