/-
  THE FRAME OF STAGE 5'S ROWS: a configuration that came in, opened.
-/
import Derived.Test.YticmkepocacmhaaFrB
import Derived.Test.YticmkepocacmhaaCf
namespace Go.Proofs.Yticmkepocacmhaa
open Go Go.ChangeShapes Go.WideShapes Go.ChangeAt Go.RowKit Go.Joins

/-- In a machine's integers. -/
structure CfIn (c : Cf) : Prop where
  raw : In64 c.raw
  w0 : In64 c.w0
  w1 : In64 c.w1
  w2 : In64 c.w2
  n0 : In64 c.n0
  n1 : In64 c.n1
  n2 : In64 c.n2
  cap : In64 c.cap
  log : In64 c.log
structure A3 where
  x : Int
  y : Int
  z : Int
def a3A (a : A3) : Array Value := #[.int .i64 a.x, .int .i64 a.y, .int .i64 a.z]
theorem i641 : Try.prog.cellsOf 2 = 1 := by kernel_rfl
theorem intCells : Try.prog.cellsOf 3 = 1 := by kernel_rfl
section
variable {H : Type} {enc : TypeId × Value → H} {W : World} {sp : Nat → Bool}
theorem arwCells : Try.prog.cellsOf 22 = 3 := by kernel_rfl
set_option maxRecDepth 100000 in
theorem arw_of {base n : Nat} {held : Bool} {cs : List Value} {x : DataW H × List MemPlace} (hlen : cs.length = 3) (h : DataW.trod enc Try.prog W base sp held n 22 cs = some x) :
    ∃ e : A3, cs = (a3A e).toList ∧ In64 e.x ∧ In64 e.y ∧ In64 e.z := by
  obtain ⟨ys, n', hn', hy, hl2, hyl, hf⟩ := DataW.trod_array Try.underlying22 h
  match cs, hlen with
  | [c0, c1, c2], _ =>
  have y0 : ys[0]? = some (ys[0]'(by omega)) := List.getElem?_eq_getElem _
  have h0 := hf 0 (by omega)
  rw [i641, y0] at h0
  have y1 : ys[1]? = some (ys[1]'(by omega)) := List.getElem?_eq_getElem _
  have h1 := hf 1 (by omega)
  rw [i641, y1] at h1
  have y2 : ys[2]? = some (ys[2]'(by omega)) := List.getElem?_eq_getElem _
  have h2 := hf 2 (by omega)
  rw [i641, y2] at h2
  simp at h0 h1 h2
  obtain ⟨z0, b0, _, w0⟩ := DataW.trod_int Try.underlying2 h0
  obtain ⟨z1, b1, _, w1⟩ := DataW.trod_int Try.underlying2 h1
  obtain ⟨z2, b2, _, w2⟩ := DataW.trod_int Try.underlying2 h2
  simp at b0 b1 b2
  subst b0 b1 b2
  exact ⟨⟨z0, z1, z2⟩, rfl, wf_i64 w0, wf_i64 w1, wf_i64 w2⟩
theorem arnCells : Try.prog.cellsOf 23 = 3 := by kernel_rfl
set_option maxRecDepth 100000 in
theorem arn_of {base n : Nat} {held : Bool} {cs : List Value} {x : DataW H × List MemPlace} (hlen : cs.length = 3) (h : DataW.trod enc Try.prog W base sp held n 23 cs = some x) :
    ∃ e : A3, cs = (a3A e).toList ∧ In64 e.x ∧ In64 e.y ∧ In64 e.z := by
  obtain ⟨ys, n', hn', hy, hl2, hyl, hf⟩ := DataW.trod_array Try.underlying23 h
  match cs, hlen with
  | [c0, c1, c2], _ =>
  have y0 : ys[0]? = some (ys[0]'(by omega)) := List.getElem?_eq_getElem _
  have h0 := hf 0 (by omega)
  rw [intCells, y0] at h0
  have y1 : ys[1]? = some (ys[1]'(by omega)) := List.getElem?_eq_getElem _
  have h1 := hf 1 (by omega)
  rw [intCells, y1] at h1
  have y2 : ys[2]? = some (ys[2]'(by omega)) := List.getElem?_eq_getElem _
  have h2 := hf 2 (by omega)
  rw [intCells, y2] at h2
  simp at h0 h1 h2
  obtain ⟨z0, b0, _, w0⟩ := DataW.trod_int Try.underlying3 h0
  obtain ⟨z1, b1, _, w1⟩ := DataW.trod_int Try.underlying3 h1
  obtain ⟨z2, b2, _, w2⟩ := DataW.trod_int Try.underlying3 h2
  simp at b0 b1 b2
  subst b0 b1 b2
  exact ⟨⟨z0, z1, z2⟩, rfl, wf_i64 w0, wf_i64 w1, wf_i64 w2⟩
theorem cfFields : Try.prog.underlying 25 = some (.struct (Try.prog.fieldsOf 25)) := by kernel_rfl
theorem cfCells : Try.prog.cellsOf 25 = 9 := by kernel_rfl
theorem cfTypes : (Try.prog.fieldsOf 25).map (fun f => (f.type, f.offset)) = #[(3, 0), (22, 1), (23, 4), (3, 7), (3, 8)] := by kernel_rfl
set_option maxRecDepth 100000 in
theorem cf_of {base n : Nat} {held : Bool} {cs : List Value} {x : DataW H × List MemPlace} (hlen : cs.length = 9) (h : DataW.trod enc Try.prog W base sp held n 25 cs = some x) :
    ∃ e : Cf, cs = (cfA e).toList ∧ CfIn e := by
  obtain ⟨ys, n', hn', hy, hl2, hyl, hf⟩ := DataW.trod_struct cfFields h
  match cs, hlen with
  | [c0, c1, c2, c3, c4, c5, c6, c7, c8], _ =>
  have hsz : (Try.prog.fieldsOf 25).size = 5 := by have := congrArg Array.size cfTypes; simpa using this
  have ft : ∀ j (hj : j < 5), ∃ f, (Try.prog.fieldsOf 25)[j]? = some f ∧ (f.type, f.offset) = [(3, 0), (22, 1), (23, 4), (3, 7), (3, 8)][j] := by
    intro j hj
    have hg : (Try.prog.fieldsOf 25)[j]? = some ((Try.prog.fieldsOf 25)[j]'(by rw [hsz]; exact hj)) := Array.getElem?_eq_getElem _
    refine ⟨_, hg, ?_⟩
    have e := congrArg (fun a => a[j]?) cfTypes
    rw [Array.getElem?_map, hg, Option.map_some] at e
    match j, hj with
    | 0, _ => exact Option.some.inj e
    | 1, _ => exact Option.some.inj e
    | 2, _ => exact Option.some.inj e
    | 3, _ => exact Option.some.inj e
    | 4, _ => exact Option.some.inj e
  obtain ⟨f0, g0, e0⟩ := ft 0 (by omega)
  obtain ⟨f1, g1, e1⟩ := ft 1 (by omega)
  obtain ⟨f2, g2, e2⟩ := ft 2 (by omega)
  obtain ⟨f3, g3, e3⟩ := ft 3 (by omega)
  obtain ⟨f4, g4, e4⟩ := ft 4 (by omega)
  have y0 : ys[0]? = some (ys[0]'(by omega)) := List.getElem?_eq_getElem _
  have y1 : ys[1]? = some (ys[1]'(by omega)) := List.getElem?_eq_getElem _
  have y2 : ys[2]? = some (ys[2]'(by omega)) := List.getElem?_eq_getElem _
  have y3 : ys[3]? = some (ys[3]'(by omega)) := List.getElem?_eq_getElem _
  have y4 : ys[4]? = some (ys[4]'(by omega)) := List.getElem?_eq_getElem _
  simp only [List.getElem_cons_zero, List.getElem_cons_succ, Prod.mk.injEq] at e0 e1 e2 e3 e4
  have h0 := hf 0 f0 g0
  have h1 := hf 1 f1 g1
  have h2 := hf 2 f2 g2
  have h3 := hf 3 f3 g3
  have h4 := hf 4 f4 g4
  rw [e0.1, e0.2, intCells, y0] at h0
  rw [e1.1, e1.2, arwCells, y1] at h1
  rw [e2.1, e2.2, arnCells, y2] at h2
  rw [e3.1, e3.2, intCells, y3] at h3
  rw [e4.1, e4.2, intCells, y4] at h4
  simp at h0 h1 h2 h3 h4
  obtain ⟨z0, b0, _, w0⟩ := DataW.trod_int Try.underlying3 h0
  obtain ⟨z1, b1, w1⟩ := arw_of rfl h1
  simp [a3A] at b1
  obtain ⟨z2, b2, w2⟩ := arn_of rfl h2
  simp [a3A] at b2
  obtain ⟨z3, b3, _, w3⟩ := DataW.trod_int Try.underlying3 h3
  obtain ⟨z4, b4, _, w4⟩ := DataW.trod_int Try.underlying3 h4
  simp at b0 b3 b4
  subst b0 b3 b4
  obtain ⟨rfl, rfl, rfl⟩ := b1
  obtain ⟨rfl, rfl, rfl⟩ := b2
  obtain ⟨v0, v1, v2⟩ := w1
  obtain ⟨u0, u1, u2⟩ := w2
  exact ⟨⟨z0, z1.x, z1.y, z1.z, z2.x, z2.y, z2.z, z3, z4⟩, rfl, wf_i64 w0, v0, v1, v2, u0, u1, u2, wf_i64 w3, wf_i64 w4⟩
theorem open_cf {r : Reach} {b0 base : Nat} {held : Bool} {v : Value} {d : DataW H} {p : List MemPlace} (hv : Value.okWide Try.prog W r b0 25 v) (h : DataW.Trod enc Try.prog W base sp held 25 v d p) :
    ∃ c : Cf, v = .agg (cfA c) ∧ CfIn c := by
  obtain ⟨cs, rfl, hsz⟩ := okWide_struct cfFields hv
  obtain ⟨fuel, hf⟩ := h
  obtain ⟨e, he, hi⟩ := cf_of (by rw [cfCells] at hsz; simpa [Value.cells] using hsz) hf
  refine ⟨e, ?_, hi⟩
  have : cs = cfA e := Array.ext' (by simpa [Value.cells] using he)
  rw [this]
end
end Go.Proofs.Yticmkepocacmhaa
