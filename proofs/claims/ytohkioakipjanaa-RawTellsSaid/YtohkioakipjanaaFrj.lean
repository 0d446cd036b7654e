/-
  THE FRAME OF STAGE 6'S ROWS: events, lists of events, raw events that came in, opened.
-/
import Derived.Test.YtohkioakipjanaaFrB
import Derived.Test.YtohkioakipjanaaRwr
namespace Go.Proofs.Ytohkioakipjanaa
open Go Go.ChangeShapes Go.WideShapes Go.ChangeAt Go.RowKit Go.Joins

/-- In a machine's integers. -/
def In64 (n : Int) : Prop := -9223372036854775808 ≤ n ∧ n ≤ 9223372036854775807
structure RawV where
  lost : Int
  mark : Int
  ao : Option Addr
  cap : Nat
  l : List Ev
def rwvA (e : RawV) : Array Value := #[.int .i64 e.lost, .int .i64 e.mark, .slice e.ao e.l.length e.cap]
theorem i641 : Try.prog.cellsOf 2 = 1 := by kernel_rfl
theorem u641 : Try.prog.cellsOf 25 = 1 := by kernel_rfl
theorem bool1 : Try.prog.cellsOf 4 = 1 := by kernel_rfl
theorem evl1 : Try.prog.cellsOf 22 = 1 := by kernel_rfl
section
variable {H : Type} {enc : TypeId × Value → H} {W : World} {sp : Nat → Bool}
/-- What is known of a list that came in. -/
def EvlIn (W : World) (ao : Option Addr) (cap : Nat) (l : List Ev) : Prop := l.length ≤ maxLen ∧ Lst 4 cE W (.slice ao l.length cap) l ∧ AllIn l ∧ l.length ≤ cap
theorem evFields : Try.prog.underlying 27 = some (.struct (Try.prog.fieldsOf 27)) := by kernel_rfl
theorem evCells : Try.prog.cellsOf 27 = 4 := by kernel_rfl
theorem evTypes : (Try.prog.fieldsOf 27).map (fun f => (f.type, f.offset)) = #[(2, 0), (25, 1), (2, 2), (4, 3)] := by kernel_rfl
set_option maxRecDepth 100000 in
theorem ev_of {base n : Nat} {held : Bool} {cs : List Value} {x : DataW H × List MemPlace} (hlen : cs.length = 4) (h : DataW.trod enc Try.prog W base sp held n 27 cs = some x) :
    ∃ e : Ev, cs = (evA e).toList ∧ EvIn e := by
  obtain ⟨ys, n', hn', hy, hl2, hyl, hf⟩ := DataW.trod_struct evFields h
  match cs, hlen with
  | [c0, c1, c2, c3], _ =>
  have hsz : (Try.prog.fieldsOf 27).size = 4 := by have := congrArg Array.size evTypes; simpa using this
  have ft : ∀ j (hj : j < 4), ∃ f, (Try.prog.fieldsOf 27)[j]? = some f ∧ (f.type, f.offset) = [(2, 0), (25, 1), (2, 2), (4, 3)][j] := by
    intro j hj
    have hg : (Try.prog.fieldsOf 27)[j]? = some ((Try.prog.fieldsOf 27)[j]'(by rw [hsz]; exact hj)) := Array.getElem?_eq_getElem _
    refine ⟨_, hg, ?_⟩
    have e := congrArg (fun a => a[j]?) evTypes
    rw [Array.getElem?_map, hg, Option.map_some] at e
    match j, hj with
    | 0, _ => exact Option.some.inj e
    | 1, _ => exact Option.some.inj e
    | 2, _ => exact Option.some.inj e
    | 3, _ => exact Option.some.inj e
  obtain ⟨f0, g0, e0⟩ := ft 0 (by omega)
  obtain ⟨f1, g1, e1⟩ := ft 1 (by omega)
  obtain ⟨f2, g2, e2⟩ := ft 2 (by omega)
  obtain ⟨f3, g3, e3⟩ := ft 3 (by omega)
  have y0 : ys[0]? = some (ys[0]'(by omega)) := List.getElem?_eq_getElem _
  have y1 : ys[1]? = some (ys[1]'(by omega)) := List.getElem?_eq_getElem _
  have y2 : ys[2]? = some (ys[2]'(by omega)) := List.getElem?_eq_getElem _
  have y3 : ys[3]? = some (ys[3]'(by omega)) := List.getElem?_eq_getElem _
  simp only [List.getElem_cons_zero, List.getElem_cons_succ, Prod.mk.injEq] at e0 e1 e2 e3
  have h0 := hf 0 f0 g0
  have h1 := hf 1 f1 g1
  have h2 := hf 2 f2 g2
  have h3 := hf 3 f3 g3
  rw [e0.1, e0.2, i641, y0] at h0
  rw [e1.1, e1.2, u641, y1] at h1
  rw [e2.1, e2.2, i641, y2] at h2
  rw [e3.1, e3.2, bool1, y3] at h3
  simp at h0 h1 h2 h3
  obtain ⟨z0, b0, _, w0⟩ := DataW.trod_int Try.underlying2 h0
  obtain ⟨z1, b1, _, w1⟩ := DataW.trod_int Try.underlying25 h1
  obtain ⟨z2, b2, _, w2⟩ := DataW.trod_int Try.underlying2 h2
  obtain ⟨z3, b3, _⟩ := DataW.trod_bool Try.underlying4 h3
  simp at b0 b1 b2 b3
  subst b0 b1 b2 b3
  obtain ⟨p0, p1⟩ := wf_i64 w0
  obtain ⟨q0, q1⟩ := wf_u64 w1
  obtain ⟨r0, r1⟩ := wf_i64 w2
  exact ⟨⟨z0, z1, z2, z3⟩, rfl, p0, p1, q0, q1, r0, r1⟩
set_option maxRecDepth 100000 in
theorem evl_of {base n : Nat} {held : Bool} {cs : List Value} {x : DataW H × List MemPlace} (h : DataW.trod enc Try.prog W base sp held n 22 cs = some x) :
    ∃ (ao : Option Addr) (cap : Nat) (l : List Ev), cs = [.slice ao l.length cap] ∧ EvlIn W ao cap l := by
  rcases Deep.open_slice Try.underlying22 h with ⟨hcs, _⟩ | ⟨a, len, cap, m, n, D, Pl, hcs, _, hl, hcm, hm, _, hi⟩
  · exact ⟨none, 0, [], hcs, Nat.zero_le _, .nil _ _ _, fun i h => by simp at h, Nat.le_refl _⟩
  · have hle : len ≤ m := by rw [hm]; split <;> omega
    have each : ∀ i, i < len → ∃ x : Ev, (∀ j (hj : j < 4), W.cell? (a.add (i * 4 + j)) = (cE x)[j]?) ∧ EvIn x := by
      intro i hi'
      obtain ⟨cs', hc, ht⟩ := hi i (by omega)
      rw [evCells] at hc
      obtain ⟨_, hcl, hat⟩ := World.cells?_some hc
      obtain ⟨x, rfl, hx⟩ := ev_of hcl ht
      refine ⟨x, fun j hj => ?_, hx⟩
      rw [← Deep.add_add]
      exact hat j hj
    have : Inhabited Ev := ⟨zeroEv⟩
    obtain ⟨F, hF⟩ := Deep.choose_lt each
    obtain ⟨b, off, spot⟩ := a
    have hspot : 0 < len → spot = none := fun h0 => by
      have h00 := (hF 0 h0).1 0 (by omega)
      simpa [Addr.add] using World.cell?_spot h00
    refine ⟨some ⟨b, off, spot⟩, cap, (List.range len).map F, by simpa using hcs, by rw [List.length_map, List.length_range]; omega, ⟨some ⟨b, off, spot⟩, b, off, cap, by simp, fun h0 => ?_, fun i y hy => ?_⟩, fun i h => ?_, by rw [List.length_map, List.length_range]; exact hl⟩
    · have h0' : 0 < len := by simpa using h0
      have := hspot h0'
      subst this
      refine ⟨rfl, ?_⟩
      have h00 := (hF 0 h0').1 0 (by omega)
      rw [Addr.add_lit] at h00
      exact World.block_lt_of_cell? W _ h00
    · have h' : i < len := by
        have := (List.getElem?_eq_some_iff.1 hy).1
        simpa using this
      have := hspot (by omega)
      subst this
      have hx := (hF i h').1
      have hyy : F i = y := by
        rw [List.getElem?_map, List.getElem?_range h'] at hy
        simpa using hy
      subst hyy
      intro j v hv
      have hj : j < 4 := (List.getElem?_eq_some_iff.1 hv).1
      have k := hx j hj
      simp only [Addr.add_lit, ← Nat.add_assoc] at k
      rw [k]
      exact hv
    · have h' : i < len := by simpa using h
      simp only [List.getElem_map, List.getElem_range]
      exact (hF i h').2
theorem rawFields : Try.prog.underlying 24 = some (.struct (Try.prog.fieldsOf 24)) := by kernel_rfl
theorem rawCells : Try.prog.cellsOf 24 = 3 := by kernel_rfl
theorem rawTypes : (Try.prog.fieldsOf 24).map (fun f => (f.type, f.offset)) = #[(2, 0), (2, 1), (22, 2)] := by kernel_rfl
set_option maxRecDepth 100000 in
theorem raw_of {base n : Nat} {held : Bool} {cs : List Value} {x : DataW H × List MemPlace} (hlen : cs.length = 3) (h : DataW.trod enc Try.prog W base sp held n 24 cs = some x) :
    ∃ e : RawV, cs = (rwvA e).toList ∧ (EvlIn W e.ao e.cap e.l ∧ In64 e.lost ∧ In64 e.mark) := by
  obtain ⟨ys, n', hn', hy, hl2, hyl, hf⟩ := DataW.trod_struct rawFields h
  match cs, hlen with
  | [c0, c1, c2], _ =>
  have hsz : (Try.prog.fieldsOf 24).size = 3 := by have := congrArg Array.size rawTypes; simpa using this
  have ft : ∀ j (hj : j < 3), ∃ f, (Try.prog.fieldsOf 24)[j]? = some f ∧ (f.type, f.offset) = [(2, 0), (2, 1), (22, 2)][j] := by
    intro j hj
    have hg : (Try.prog.fieldsOf 24)[j]? = some ((Try.prog.fieldsOf 24)[j]'(by rw [hsz]; exact hj)) := Array.getElem?_eq_getElem _
    refine ⟨_, hg, ?_⟩
    have e := congrArg (fun a => a[j]?) rawTypes
    rw [Array.getElem?_map, hg, Option.map_some] at e
    match j, hj with
    | 0, _ => exact Option.some.inj e
    | 1, _ => exact Option.some.inj e
    | 2, _ => exact Option.some.inj e
  obtain ⟨f0, g0, e0⟩ := ft 0 (by omega)
  obtain ⟨f1, g1, e1⟩ := ft 1 (by omega)
  obtain ⟨f2, g2, e2⟩ := ft 2 (by omega)
  have y0 : ys[0]? = some (ys[0]'(by omega)) := List.getElem?_eq_getElem _
  have y1 : ys[1]? = some (ys[1]'(by omega)) := List.getElem?_eq_getElem _
  have y2 : ys[2]? = some (ys[2]'(by omega)) := List.getElem?_eq_getElem _
  simp only [List.getElem_cons_zero, List.getElem_cons_succ, Prod.mk.injEq] at e0 e1 e2
  have h0 := hf 0 f0 g0
  have h1 := hf 1 f1 g1
  have h2 := hf 2 f2 g2
  rw [e0.1, e0.2, i641, y0] at h0
  rw [e1.1, e1.2, i641, y1] at h1
  rw [e2.1, e2.2, evl1, y2] at h2
  simp at h0 h1 h2
  obtain ⟨z0, b0, _, w0⟩ := DataW.trod_int Try.underlying2 h0
  obtain ⟨z1, b1, _, w1⟩ := DataW.trod_int Try.underlying2 h1
  obtain ⟨ao2, cap2, l2, b2, w2⟩ := evl_of h2
  simp at b0 b1 b2
  subst b0 b1 b2
  exact ⟨⟨z0, z1, ao2, cap2, l2⟩, rfl, w2, wf_i64 w0, wf_i64 w1⟩
theorem open_ev {r : Reach} {b0 base : Nat} {held : Bool} {v : Value} {d : DataW H} {p : List MemPlace} (hv : Value.okWide Try.prog W r b0 27 v) (h : DataW.Trod enc Try.prog W base sp held 27 v d p) :
    ∃ e : Ev, v = .agg (evA e) ∧ EvIn e := by
  obtain ⟨cs, rfl, hsz⟩ := okWide_struct evFields hv
  obtain ⟨fuel, hf⟩ := h
  obtain ⟨e, he, hi⟩ := ev_of (by rw [evCells] at hsz; simpa [Value.cells] using hsz) hf
  refine ⟨e, ?_, hi⟩
  have : cs = evA e := Array.ext' (by simpa [Value.cells] using he)
  rw [this]
theorem open_raw {r : Reach} {b0 base : Nat} {held : Bool} {v : Value} {d : DataW H} {p : List MemPlace} (hv : Value.okWide Try.prog W r b0 24 v) (h : DataW.Trod enc Try.prog W base sp held 24 v d p) :
    ∃ e : RawV, v = .agg (rwvA e) ∧ EvlIn W e.ao e.cap e.l ∧ In64 e.lost ∧ In64 e.mark := by
  obtain ⟨cs, rfl, hsz⟩ := okWide_struct rawFields hv
  obtain ⟨fuel, hf⟩ := h
  obtain ⟨e, he, hi⟩ := raw_of (by rw [rawCells] at hsz; simpa [Value.cells] using hsz) hf
  refine ⟨e, ?_, hi⟩
  have : cs = rwvA e := Array.ext' (by simpa [Value.cells] using he)
  rw [this]
theorem open_evs {r : Reach} {b0 base : Nat} {held : Bool} {v : Value} {d : DataW H} {p : List MemPlace} (hv : Value.okWide Try.prog W r b0 22 v) (h : DataW.Trod enc Try.prog W base sp held 22 v d p) :
    ∃ (ao : Option Addr) (_b _off cap : Nat) (l : List Ev), v = .slice ao l.length cap ∧ l.length ≤ maxLen ∧ (Lst 4 cE W (.slice ao l.length cap) l ∧ AllIn l) ∧ l.length ≤ cap := by
  obtain ⟨ao, len, cap, rfl⟩ := okWide_slice Try.underlying22 hv
  obtain ⟨fuel, hf⟩ := h
  obtain ⟨ao2, cap2, l, hcs, h1, h2, h3, h4⟩ := evl_of hf
  simp [Value.cells] at hcs
  obtain ⟨rfl, rfl, rfl⟩ := hcs
  exact ⟨ao, 0, 0, cap, l, rfl, h1, ⟨h2, h3⟩, h4⟩
end
end Go.Proofs.Ytohkioakipjanaa
