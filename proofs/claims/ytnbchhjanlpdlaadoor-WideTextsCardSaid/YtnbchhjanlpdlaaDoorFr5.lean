/-
  THE FRAME OF THE CARDS WHOSE ARGUMENTS HOLD MEMORY: a law that answers true, and below the heap's old size has turned nothing, meets its row; slices of numbers of 128 bits opened.
-/
import Derived.Test.YtnbchhjanlpdlaaDoorFrame
import Derived.Test.YtnbchhjanlpdlaaDoorSum
import Derived.Carry
import Derived.SliceStrings
import Derived.Deep.Slices
import Derived.Deep.Fields
import Derived.ChangeSame
namespace Go.Proofs.YtnbchhjanlpdlaaDoor
open Go Go.ChangeShapes Go.WideShapes Go.ChangeAt Go.RowKit Go.Joins

theorem laidOut : laidOutB Tryd.prog = true := by kernel_rfl
section
variable {H : Type} {enc : TypeId × Value → H} {W : World} {sp : Nat → Bool}
theorem trodAll_later {P : Program} (hl : laidOutB P = true) {W' : World} (hb : Below W.heap.size W W') :
    ∀ (ts : List TypeId) (vs : List Value) (ds : List (DataW H)) (ps : List MemPlace), (∀ t ∈ ts, P.readableRec t = true ∧ t < P.types.size) → (∀ x ∈ ps, x.block < W.heap.size) →
      DataW.TrodAll enc P W 0 (fun _ => true) true ts vs ds ps → DataW.TrodAll enc P W' 0 (fun b => decide (b < W.heap.size)) true ts vs ds ps
  | [], vs, ds, ps, _, _, h => by
    obtain ⟨rfl, rfl, rfl⟩ := trodAll_nil h
    exact trodAll_mk0
  | t :: ts, vs, ds, ps, ht, hp, h => by
    obtain ⟨v, vs', d, ds', p, q, rfl, rfl, rfl, h1, h2⟩ := trodAll_cons h
    exact trodAll_cons_mk (Below.trod hl (ht t (by simp)).1 (ht t (by simp)).2 h1 hb (fun x hx => hp x (by simp [hx])))
      (trodAll_later hl hb ts vs' ds' q (fun u hu => ht u (by simp [hu])) (fun x hx => hp x (by simp [hx])) h2)

set_option maxRecDepth 100000 in
/-- What a law's row asks behind the call. -/
theorem law_post {P : Program} {f : Func} {s : ChangeSpec} {W' : World} {args : Array Value} {ds gs : List (DataW H)} {before : List MemPlace} (hl : laidOutB P = true) (hW : DataW.Whole enc P f.params.toList s.vars false W args.toList ds gs before)
    (hv : s.vars = []) (hread : f.params.toList.all (fun t => P.readableRec t && decide (t < P.types.size)) = true) (hb : Below W.heap.size W W')
    (hfn : s.fn H (ds ++ gs) = { results := [.lit (.bool true)], args := ds }) (hr : f.resultTypes = #[4]) (hbool : P.underlying 4 = some .bool) :
    s.post enc P f false true false false W args (.bool true) W' := by
  have hW' := hW
  obtain ⟨p, q, hA, hV, rfl, _, _⟩ := hW
  have hlt : ∀ x ∈ p, x.block < W.heap.size := fun x hx => hW'.lt x (by simp [hx])
  have hargs := trodAll_later hl hb _ _ _ p (fun t ht => by
    have := List.all_eq_true.1 hread t ht
    simpa using this) hlt hA
  refine ⟨ds, gs, _, [], p, [], hW', ?_, ?_, ?_, hb.frame _, fun h => by cases h⟩
  · rw [hfn, hr]
    exact trodAll_cons_mk (shut_bool hbool true) trodAll_mk0
  · rw [hfn]; exact hargs
  · rw [hfn, hv]; exact rfl

/-! ### Numbers of 128 bits in a slice. -/
theorem wideTypes : (Tryd.prog.fieldsOf 24).map (fun f => (f.type, f.offset)) = #[(22, 0), (22, 1)] := by kernel_rfl
theorem u641 : Tryd.prog.cellsOf 22 = 1 := by kernel_rfl

set_option maxRecDepth 100000 in
theorem wide_of {base n : Nat} {held : Bool} {cs : List Value} {x : DataW H × List MemPlace} (hlen : cs.length = 2) (h : DataW.trod enc Tryd.prog W base sp held n 24 cs = some x) :
    ∃ a : U, cs = [.int .u64 (hiZ a), .int .u64 (loZ a)] := by
  obtain ⟨ys, n', hn', hy, hl2, hyl, hf⟩ := DataW.trod_struct wfields h
  match cs, hlen with
  | [c0, c1], _ =>
  have hsz : (Tryd.prog.fieldsOf 24).size = 2 := by have := congrArg Array.size wideTypes; simpa using this
  have ft : ∀ j (hj : j < 2), ∃ f, (Tryd.prog.fieldsOf 24)[j]? = some f ∧ (f.type, f.offset) = [(22, 0), (22, 1)][j] := by
    intro j hj
    have hg : (Tryd.prog.fieldsOf 24)[j]? = some ((Tryd.prog.fieldsOf 24)[j]'(by rw [hsz]; exact hj)) := Array.getElem?_eq_getElem _
    refine ⟨_, hg, ?_⟩
    have e := congrArg (fun a => a[j]?) wideTypes
    rw [Array.getElem?_map, hg, Option.map_some] at e
    match j, hj with
    | 0, _ => exact Option.some.inj e
    | 1, _ => exact Option.some.inj e
  obtain ⟨f0, g0, e0⟩ := ft 0 (by omega)
  obtain ⟨f1, g1, e1⟩ := ft 1 (by omega)
  have y0 : ys[0]? = some (ys[0]'(by omega)) := List.getElem?_eq_getElem _
  have y1 : ys[1]? = some (ys[1]'(by omega)) := List.getElem?_eq_getElem _
  simp only [List.getElem_cons_zero, List.getElem_cons_succ, Prod.mk.injEq] at e0 e1
  have h0 := hf 0 f0 g0
  have h1 := hf 1 f1 g1
  rw [e0.1, e0.2, u641, y0] at h0
  rw [e1.1, e1.2, u641, y1] at h1
  simp at h0 h1
  obtain ⟨z0, b0, _, w0⟩ := DataW.trod_int Tryd.underlying22 h0
  obtain ⟨z1, b1, _, w1⟩ := DataW.trod_int Tryd.underlying22 h1
  simp at b0 b1
  subst b0 b1
  obtain ⟨p0, p1⟩ := wf_u64 w0
  obtain ⟨q0, q1⟩ := wf_u64 w1
  obtain ⟨a, rfl, rfl, _⟩ := U.of_halves z0 z1 p0 p1 q0 q1
  exact ⟨a, rfl⟩
/-- A slice that came in, whose elements are these numbers. -/
structure WidesAt (W : World) (ao : Option Addr) (b off cap : Nat) (l : List U) : Prop where
  at_ : (ao = none ∧ l = [] ∧ cap = 0) ∨ (∃ spot, ao = some ⟨b, off, spot⟩ ∧ (0 < l.length → spot = none ∧ b < W.heap.size))
  cell : rowOf W b off l

set_option maxRecDepth 100000 in
theorem open_wides {r : Reach} {b0 base : Nat} {held : Bool} {v : Value} {d : DataW H} {p : List MemPlace} (hv : Value.okWide Tryd.prog W r b0 35 v) (h : DataW.Trod enc Tryd.prog W base sp held 35 v d p) :
    ∃ (ao : Option Addr) (b off cap : Nat) (l : List U), v = .slice ao l.length cap ∧ l.length ≤ maxLen ∧ WidesAt W ao b off cap l := by
  obtain ⟨ao, len, cap, rfl⟩ := okWide_slice Tryd.underlying35 hv
  obtain ⟨fuel, hf⟩ := h
  rcases Deep.open_slice Tryd.underlying35 hf with ⟨hcs, _⟩ | ⟨a, len', cap', m, n, D, Pl, hcs, _, hl, hcm, hm, _, hi⟩
  · simp [Value.cells] at hcs
    obtain ⟨rfl, rfl, rfl⟩ := hcs
    exact ⟨none, 0, 0, 0, [], rfl, Nat.zero_le _, ⟨Or.inl ⟨rfl, rfl, rfl⟩, fun i h => by simp at h⟩⟩
  · simp [Value.cells] at hcs
    obtain ⟨rfl, rfl, rfl⟩ := hcs
    have hle : len ≤ m := by rw [hm]; split <;> omega
    have each : ∀ i, i < len → ∃ x : U, (∀ j (hj : j < 2), W.cell? (a.add (i * 2 + j)) = [Value.int .u64 (hiZ x), .int .u64 (loZ x)][j]?) := by
      intro i hi'
      obtain ⟨cs', hc, ht⟩ := hi i (by omega)
      rw [cellsW] at hc
      obtain ⟨_, hcl, hat⟩ := World.cells?_some hc
      obtain ⟨x, rfl⟩ := wide_of hcl ht
      refine ⟨x, fun j hj => ?_⟩
      rw [← Deep.add_add]
      exact hat j hj
    have : Inhabited U := ⟨U.zero⟩
    obtain ⟨F, hF⟩ := Deep.choose_lt each
    obtain ⟨b, off, spot⟩ := a
    have hspot : 0 < len → spot = none := fun h0 => by
      have h00 := (hF 0 h0) 0 (by omega)
      simpa [Addr.add] using World.cell?_spot h00
    refine ⟨some ⟨b, off, spot⟩, b, off, cap, (List.range len).map F, by simp, by rw [List.length_map, List.length_range]; omega, ⟨Or.inr ⟨spot, rfl, fun h0 => ?_⟩, fun i h => ?_⟩⟩
    · have h0' : 0 < len := by simpa using h0
      have := hspot h0'
      subst this
      refine ⟨rfl, ?_⟩
      have h00 := (hF 0 h0') 0 (by omega)
      rw [Addr.add_lit] at h00
      exact World.block_lt_of_cell? W _ h00
    · have h' : i < len := by simpa using h
      have := hspot (by omega)
      subst this
      have hx := (hF i h')
      have k0 := hx 0 (by omega)
      have k1 := hx 1 (by omega)
      simp only [Addr.add_lit, Nat.add_zero, ← Nat.add_assoc] at k0 k1
      simp only [List.getElem_map, List.getElem_range]
      exact ⟨k0, k1⟩
end
end Go.Proofs.YtnbchhjanlpdlaaDoor
