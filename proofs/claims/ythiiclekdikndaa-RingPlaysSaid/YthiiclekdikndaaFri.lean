/-
  THE FRAME OF THE ROWS OF LAW 11: lists that came in, opened.
-/
import Derived.Test.YthiiclekdikndaaFrB
import Derived.Test.YthiiclekdikndaaRhi
namespace Go.Proofs.Ythiiclekdikndaa
open Go Go.ChangeShapes Go.WideShapes Go.ChangeAt Go.RowKit Go.Joins

/-- In a machine's integers. -/
def In64 (n : Int) : Prop := -9223372036854775808 ≤ n ∧ n ≤ 9223372036854775807
/-- Two numbers. -/
structure A2 where
  k : Int
  n : Int
def a2A (a : A2) : Array Value := #[.int .i64 a.k, .int .i64 a.n]
def c2 (a : A2) : List Value := [.int .i64 a.k, .int .i64 a.n]
theorem c2_len (a : A2) : (c2 a).length = 2 := rfl
theorem intCells : Try.prog.cellsOf 3 = 1 := by kernel_rfl
section
variable {H : Type} {enc : TypeId × Value → H} {W : World} {sp : Nat → Bool}
theorem int_of {base n : Nat} {held : Bool} {cs : List Value} {x : DataW H × List MemPlace} (hlen : cs.length = 1) (h : DataW.trod enc Try.prog W base sp held n 3 cs = some x) :
    ∃ e : Int, cs = ci e ∧ In64 e := by
  match cs, hlen with
  | [c0], _ =>
  obtain ⟨z0, b0, _, w0⟩ := DataW.trod_int Try.underlying3 h
  simp at b0
  subst b0
  exact ⟨z0, rfl, wf_i64 w0⟩
theorem actFields : Try.prog.underlying 35 = some (.struct (Try.prog.fieldsOf 35)) := by kernel_rfl
theorem actCells : Try.prog.cellsOf 35 = 2 := by kernel_rfl
theorem actTypes : (Try.prog.fieldsOf 35).map (fun f => (f.type, f.offset)) = #[(3, 0), (3, 1)] := by kernel_rfl
set_option maxRecDepth 100000 in
theorem act_of {base n : Nat} {held : Bool} {cs : List Value} {x : DataW H × List MemPlace} (hlen : cs.length = 2) (h : DataW.trod enc Try.prog W base sp held n 35 cs = some x) :
    ∃ e : A2, cs = (a2A e).toList ∧ (In64 e.k ∧ In64 e.n) := by
  obtain ⟨ys, n', hn', hy, hl2, hyl, hf⟩ := DataW.trod_struct actFields h
  match cs, hlen with
  | [c0, c1], _ =>
  have hsz : (Try.prog.fieldsOf 35).size = 2 := by have := congrArg Array.size actTypes; simpa using this
  have ft : ∀ j (hj : j < 2), ∃ f, (Try.prog.fieldsOf 35)[j]? = some f ∧ (f.type, f.offset) = [(3, 0), (3, 1)][j] := by
    intro j hj
    have hg : (Try.prog.fieldsOf 35)[j]? = some ((Try.prog.fieldsOf 35)[j]'(by rw [hsz]; exact hj)) := Array.getElem?_eq_getElem _
    refine ⟨_, hg, ?_⟩
    have e := congrArg (fun a => a[j]?) actTypes
    rw [Array.getElem?_map, hg, Option.map_some] at e
    match j, hj with
    | 0, _ => exact Option.some.inj e
    | 1, _ => exact Option.some.inj e
  obtain ⟨f0, g0, e0⟩ := ft 0 (by omega)
  obtain ⟨f1, g1, e1⟩ := ft 1 (by omega)
  have y0 : ys[0]? = some (ys[0]'(by omega)) := List.getElem?_eq_getElem _
  have y1 : ys[1]? = some (ys[1]'(by omega)) := List.getElem?_eq_getElem _
  simp only [List.getElem_cons_zero, List.getElem_cons_succ, Prod.mk.injEq] at e0 e1
  have h0 := hf 0 f0 g0
  have h1 := hf 1 f1 g1
  rw [e0.1, e0.2, intCells, y0] at h0
  rw [e1.1, e1.2, intCells, y1] at h1
  simp at h0 h1
  obtain ⟨z0, b0, _, w0⟩ := DataW.trod_int Try.underlying3 h0
  obtain ⟨z1, b1, _, w1⟩ := DataW.trod_int Try.underlying3 h1
  simp at b0 b1
  subst b0 b1
  exact ⟨⟨z0, z1⟩, rfl, wf_i64 w0, wf_i64 w1⟩
set_option maxRecDepth 100000 in
theorem open_ints {r : Reach} {b0 base : Nat} {held : Bool} {v : Value} {d : DataW H} {p : List MemPlace} (hv : Value.okWide Try.prog W r b0 29 v) (h : DataW.Trod enc Try.prog W base sp held 29 v d p) :
    ∃ (ao : Option Addr) (_b _off cap : Nat) (l : List Int), v = .slice ao l.length cap ∧ l.length ≤ maxLen ∧ (Lst 1 ci W (.slice ao l.length cap) l ∧ ∀ (i : Nat) (h : i < l.length), In64 l[i]) ∧ l.length ≤ cap := by
  obtain ⟨ao, len, cap, rfl⟩ := okWide_slice Try.underlying29 hv
  obtain ⟨fuel, hf⟩ := h
  rcases Deep.open_slice Try.underlying29 hf with ⟨hcs, _⟩ | ⟨a, len', cap', m, n, D, Pl, hcs, _, hl, hcm, hm, _, hi⟩
  · simp [Value.cells] at hcs
    obtain ⟨rfl, rfl, rfl⟩ := hcs
    exact ⟨none, 0, 0, 0, [], rfl, Nat.zero_le _, ⟨.nil _ _ _, fun i h => by simp at h⟩, Nat.le_refl _⟩
  · simp [Value.cells] at hcs
    obtain ⟨rfl, rfl, rfl⟩ := hcs
    have hle : len ≤ m := by rw [hm]; split <;> omega
    have each : ∀ i, i < len → ∃ x : Int, (∀ j (hj : j < 1), W.cell? (a.add (i * 1 + j)) = (ci x)[j]?) ∧ In64 x := by
      intro i hi'
      obtain ⟨cs', hc, ht⟩ := hi i (by omega)
      rw [intCells] at hc
      obtain ⟨_, hcl, hat⟩ := World.cells?_some hc
      obtain ⟨x, rfl, hx⟩ := int_of hcl ht
      refine ⟨x, fun j hj => ?_, hx⟩
      rw [← Deep.add_add]
      exact hat j hj
    have : Inhabited Int := ⟨0⟩
    obtain ⟨F, hF⟩ := Deep.choose_lt each
    obtain ⟨b, off, spot⟩ := a
    have hspot : 0 < len → spot = none := fun h0 => by
      have h00 := (hF 0 h0).1 0 (by omega)
      simpa [Addr.add] using World.cell?_spot h00
    refine ⟨some ⟨b, off, spot⟩, b, off, cap, (List.range len).map F, by simp, by rw [List.length_map, List.length_range]; omega, ⟨⟨some ⟨b, off, spot⟩, b, off, cap, by simp, fun h0 => ?_, fun i y hy => ?_⟩, fun i h => ?_⟩, by rw [List.length_map, List.length_range]; exact hl⟩
    · have h0' : 0 < len := by simpa using h0
      have := hspot h0'
      subst this
      refine ⟨rfl, ?_⟩
      have h00 := (hF 0 h0').1 0 (by omega)
      rw [Addr.add_lit] at h00
      exact World.block_lt_of_cell? W _ h00
    · have h' : i < len := by
        have := (List.getElem?_eq_some_iff.1 hy).1
        simpa using this
      have := hspot (by omega)
      subst this
      have hx := (hF i h').1
      have hyy : F i = y := by
        rw [List.getElem?_map, List.getElem?_range h'] at hy
        simpa using hy
      subst hyy
      intro j v hv
      have hj : j < 1 := (List.getElem?_eq_some_iff.1 hv).1
      have k := hx j hj
      simp only [Addr.add_lit, ← Nat.add_assoc] at k
      rw [k]
      exact hv
    · have h' : i < len := by simpa using h
      simp only [List.getElem_map, List.getElem_range]
      exact (hF i h').2
set_option maxRecDepth 100000 in
theorem open_acts {r : Reach} {b0 base : Nat} {held : Bool} {v : Value} {d : DataW H} {p : List MemPlace} (hv : Value.okWide Try.prog W r b0 22 v) (h : DataW.Trod enc Try.prog W base sp held 22 v d p) :
    ∃ (ao : Option Addr) (_b _off cap : Nat) (l : List A2), v = .slice ao l.length cap ∧ l.length ≤ maxLen ∧ (Lst 2 c2 W (.slice ao l.length cap) l ∧ ∀ (i : Nat) (h : i < l.length), (In64 (l[i]).k ∧ In64 (l[i]).n)) ∧ l.length ≤ cap := by
  obtain ⟨ao, len, cap, rfl⟩ := okWide_slice Try.underlying22 hv
  obtain ⟨fuel, hf⟩ := h
  rcases Deep.open_slice Try.underlying22 hf with ⟨hcs, _⟩ | ⟨a, len', cap', m, n, D, Pl, hcs, _, hl, hcm, hm, _, hi⟩
  · simp [Value.cells] at hcs
    obtain ⟨rfl, rfl, rfl⟩ := hcs
    exact ⟨none, 0, 0, 0, [], rfl, Nat.zero_le _, ⟨.nil _ _ _, fun i h => by simp at h⟩, Nat.le_refl _⟩
  · simp [Value.cells] at hcs
    obtain ⟨rfl, rfl, rfl⟩ := hcs
    have hle : len ≤ m := by rw [hm]; split <;> omega
    have each : ∀ i, i < len → ∃ x : A2, (∀ j (hj : j < 2), W.cell? (a.add (i * 2 + j)) = (c2 x)[j]?) ∧ (In64 (x).k ∧ In64 (x).n) := by
      intro i hi'
      obtain ⟨cs', hc, ht⟩ := hi i (by omega)
      rw [actCells] at hc
      obtain ⟨_, hcl, hat⟩ := World.cells?_some hc
      obtain ⟨x, rfl, hx⟩ := act_of hcl ht
      refine ⟨x, fun j hj => ?_, hx⟩
      rw [← Deep.add_add]
      exact hat j hj
    have : Inhabited A2 := ⟨⟨0, 0⟩⟩
    obtain ⟨F, hF⟩ := Deep.choose_lt each
    obtain ⟨b, off, spot⟩ := a
    have hspot : 0 < len → spot = none := fun h0 => by
      have h00 := (hF 0 h0).1 0 (by omega)
      simpa [Addr.add] using World.cell?_spot h00
    refine ⟨some ⟨b, off, spot⟩, b, off, cap, (List.range len).map F, by simp, by rw [List.length_map, List.length_range]; omega, ⟨⟨some ⟨b, off, spot⟩, b, off, cap, by simp, fun h0 => ?_, fun i y hy => ?_⟩, fun i h => ?_⟩, by rw [List.length_map, List.length_range]; exact hl⟩
    · have h0' : 0 < len := by simpa using h0
      have := hspot h0'
      subst this
      refine ⟨rfl, ?_⟩
      have h00 := (hF 0 h0').1 0 (by omega)
      rw [Addr.add_lit] at h00
      exact World.block_lt_of_cell? W _ h00
    · have h' : i < len := by
        have := (List.getElem?_eq_some_iff.1 hy).1
        simpa using this
      have := hspot (by omega)
      subst this
      have hx := (hF i h').1
      have hyy : F i = y := by
        rw [List.getElem?_map, List.getElem?_range h'] at hy
        simpa using hy
      subst hyy
      intro j v hv
      have hj : j < 2 := (List.getElem?_eq_some_iff.1 hv).1
      have k := hx j hj
      simp only [Addr.add_lit, ← Nat.add_assoc] at k
      rw [k]
      exact hv
    · have h' : i < len := by simpa using h
      simp only [List.getElem_map, List.getElem_range]
      exact (hF i h').2
end
end Go.Proofs.Ythiiclekdikndaa
