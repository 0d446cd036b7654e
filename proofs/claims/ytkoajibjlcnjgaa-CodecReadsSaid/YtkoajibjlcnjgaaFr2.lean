/-
  THE FRAME OF THE ROWS WHOSE ARGUMENTS HOLD MEMORY: a law that answers true, and below the heap's old size has turned nothing, meets its row; slices of rows of cells opened.
-/
import Derived.Test.YtkoajibjlcnjgaaFr
import Derived.Test.YtkoajibjlcnjgaaRd
import Derived.Carry
import Derived.SliceStrings
import Derived.Deep.Slices
import Derived.Deep.Fields
import Derived.ChangeSame
namespace Go.Proofs.Ytkoajibjlcnjgaa
open Go Go.ChangeShapes Go.WideShapes Go.ChangeAt Go.RowKit Go.Joins

theorem laidOut : laidOutB Try.prog = true := by kernel_rfl
section
variable {H : Type} {enc : TypeId × Value → H} {W : World} {sp : Nat → Bool}
theorem trodAll_later {P : Program} (hl : laidOutB P = true) {W' : World} (hb : Below W.heap.size W W') :
    ∀ (ts : List TypeId) (vs : List Value) (ds : List (DataW H)) (ps : List MemPlace), (∀ t ∈ ts, P.readableRec t = true ∧ t < P.types.size) → (∀ x ∈ ps, x.block < W.heap.size) →
      DataW.TrodAll enc P W 0 (fun _ => true) true ts vs ds ps → DataW.TrodAll enc P W' 0 (fun b => decide (b < W.heap.size)) true ts vs ds ps
  | [], vs, ds, ps, _, _, h => by
    obtain ⟨rfl, rfl, rfl⟩ := trodAll_nil h
    exact trodAll_mk0
  | t :: ts, vs, ds, ps, ht, hp, h => by
    obtain ⟨v, vs', d, ds', p, q, rfl, rfl, rfl, h1, h2⟩ := trodAll_cons h
    exact trodAll_cons_mk (Below.trod hl (ht t (by simp)).1 (ht t (by simp)).2 h1 hb (fun x hx => hp x (by simp [hx])))
      (trodAll_later hl hb ts vs' ds' q (fun u hu => ht u (by simp [hu])) (fun x hx => hp x (by simp [hx])) h2)

set_option maxRecDepth 100000 in
/-- What a law's row asks behind the call. -/
theorem law_post {P : Program} {f : Func} {s : ChangeSpec} {W' : World} {args : Array Value} {ds gs : List (DataW H)} {before : List MemPlace} (hl : laidOutB P = true) (hW : DataW.Whole enc P f.params.toList s.vars false W args.toList ds gs before)
    (hv : s.vars = []) (hread : f.params.toList.all (fun t => P.readableRec t && decide (t < P.types.size)) = true) (hb : Below W.heap.size W W')
    (hfn : s.fn H (ds ++ gs) = { results := [.lit (.bool true)], args := ds }) (hr : f.resultTypes = #[4]) (hbool : P.underlying 4 = some .bool) :
    s.post enc P f false true false false W args (.bool true) W' := by
  have hW' := hW
  obtain ⟨p, q, hA, hV, rfl, _, _⟩ := hW
  have hlt : ∀ x ∈ p, x.block < W.heap.size := fun x hx => hW'.lt x (by simp [hx])
  have hargs := trodAll_later hl hb _ _ _ p (fun t ht => by
    have := List.all_eq_true.1 hread t ht
    simpa using this) hlt hA
  refine ⟨ds, gs, _, [], p, [], hW', ?_, ?_, ?_, hb.frame _, fun h => by cases h⟩
  · rw [hfn, hr]
    exact trodAll_cons_mk (shut_bool hbool true) trodAll_mk0
  · rw [hfn]; exact hargs
  · rw [hfn, hv]; exact rfl

/-! ### Acts. -/
structure ActV where
  kind : Int
  n : Nat
  width : Int
  text : List UInt8
/-- A slice that came in, whose elements are these acts. -/
structure ActsAt (W : World) (ao : Option Addr) (b off : Nat) (l : List ActV) : Prop where
  at_ : 0 < l.length → ao = some ⟨b, off, none⟩ ∧ b < W.heap.size
  cell : ∀ (i : Nat) (h : i < l.length), W.cell? ⟨b, off + i * 4, none⟩ = some (.int .i64 l[i].kind) ∧ W.cell? ⟨b, off + i * 4 + 1, none⟩ = some (.int .u64 l[i].n) ∧
    W.cell? ⟨b, off + i * 4 + 2, none⟩ = some (.int .i64 l[i].width) ∧ W.cell? ⟨b, off + i * 4 + 3, none⟩ = some (.string (bs l[i].text))
  fits : ∀ (i : Nat) (h : i < l.length), l[i].n < 18446744073709551616 ∧ l[i].text.length ≤ maxLen ∧ -9223372036854775808 ≤ l[i].kind ∧ l[i].kind ≤ 9223372036854775807 ∧ -9223372036854775808 ≤ l[i].width ∧ l[i].width ≤ 9223372036854775807

theorem actFields : Try.prog.underlying 29 = some (.struct (Try.prog.fieldsOf 29)) := by kernel_rfl
theorem actCells : Try.prog.cellsOf 29 = 4 := by kernel_rfl
theorem actTypes : (Try.prog.fieldsOf 29).map (fun f => (f.type, f.offset)) = #[(3, 0), (27, 1), (3, 2), (9, 3)] := by kernel_rfl
theorem int1 : Try.prog.cellsOf 3 = 1 := by kernel_rfl
theorem u641 : Try.prog.cellsOf 27 = 1 := by kernel_rfl
theorem str1 : Try.prog.cellsOf 9 = 1 := by kernel_rfl

set_option maxRecDepth 100000 in
theorem act_of {base n : Nat} {held : Bool} {cs : List Value} {x : DataW H × List MemPlace} (hlen : cs.length = 4) (h : DataW.trod enc Try.prog W base sp held n 29 cs = some x) :
    ∃ a : ActV, cs = [.int .i64 a.kind, .int .u64 a.n, .int .i64 a.width, .string (bs a.text)] ∧ a.n < 18446744073709551616 ∧ a.text.length ≤ maxLen ∧ -9223372036854775808 ≤ a.kind ∧ a.kind ≤ 9223372036854775807 ∧ -9223372036854775808 ≤ a.width ∧ a.width ≤ 9223372036854775807 := by
  obtain ⟨ys, n', hn', hy, hl2, hyl, hf⟩ := DataW.trod_struct actFields h
  match cs, hlen with
  | [c0, c1, c2, c3], _ =>
  have hsz : (Try.prog.fieldsOf 29).size = 4 := by have := congrArg Array.size actTypes; simpa using this
  have ft : ∀ j (hj : j < 4), ∃ f, (Try.prog.fieldsOf 29)[j]? = some f ∧ (f.type, f.offset) = [(3, 0), (27, 1), (3, 2), (9, 3)][j] := by
    intro j hj
    have hg : (Try.prog.fieldsOf 29)[j]? = some ((Try.prog.fieldsOf 29)[j]'(by rw [hsz]; exact hj)) := Array.getElem?_eq_getElem _
    refine ⟨_, hg, ?_⟩
    have e := congrArg (fun a => a[j]?) actTypes
    rw [Array.getElem?_map, hg, Option.map_some] at e
    match j, hj with
    | 0, _ => exact Option.some.inj e
    | 1, _ => exact Option.some.inj e
    | 2, _ => exact Option.some.inj e
    | 3, _ => exact Option.some.inj e
  obtain ⟨f0, g0, e0⟩ := ft 0 (by omega)
  obtain ⟨f1, g1, e1⟩ := ft 1 (by omega)
  obtain ⟨f2, g2, e2⟩ := ft 2 (by omega)
  obtain ⟨f3, g3, e3⟩ := ft 3 (by omega)
  have y0 : ys[0]? = some (ys[0]'(by omega)) := List.getElem?_eq_getElem _
  have y1 : ys[1]? = some (ys[1]'(by omega)) := List.getElem?_eq_getElem _
  have y2 : ys[2]? = some (ys[2]'(by omega)) := List.getElem?_eq_getElem _
  have y3 : ys[3]? = some (ys[3]'(by omega)) := List.getElem?_eq_getElem _
  simp only [List.getElem_cons_zero, List.getElem_cons_succ, Prod.mk.injEq] at e0 e1 e2 e3
  have h0 := hf 0 f0 g0
  have h1 := hf 1 f1 g1
  have h2 := hf 2 f2 g2
  have h3 := hf 3 f3 g3
  rw [e0.1, e0.2, int1, y0] at h0
  rw [e1.1, e1.2, u641, y1] at h1
  rw [e2.1, e2.2, int1, y2] at h2
  rw [e3.1, e3.2, str1, y3] at h3
  simp at h0 h1 h2 h3
  obtain ⟨z0, b0, _, w0⟩ := DataW.trod_int Try.underlying3 h0
  obtain ⟨z1, b1, _, w1⟩ := DataW.trod_int Try.underlying27 h1
  obtain ⟨z2, b2, _, w2⟩ := DataW.trod_int Try.underlying3 h2
  obtain ⟨z3, b3, _, w3⟩ := DataW.trod_string Try.underlying9 h3
  simp at b0 b1 b2 b3
  subst b0 b1 b2 b3
  obtain ⟨p0, p1⟩ := wf_i64 w0
  obtain ⟨q0, q1⟩ := wf_u64 w1
  obtain ⟨r0, r1⟩ := wf_i64 w2
  refine ⟨⟨z0, z1.toNat, z2, z3.data.toList⟩, ?_, by show z1.toNat < _; omega, ?_, p0, p1, r0, r1⟩
  · rw [show ((z1.toNat : Nat) : Int) = z1 by omega]
    rfl
  · have e : z3.data.toList.length = z3.size := Array.length_toList
    show z3.data.toList.length ≤ maxLen
    rw [e]
    exact w3

set_option maxRecDepth 100000 in
theorem open_acts {r : Reach} {b0 base : Nat} {held : Bool} {v : Value} {d : DataW H} {p : List MemPlace} (hv : Value.okWide Try.prog W r b0 22 v) (h : DataW.Trod enc Try.prog W base sp held 22 v d p) :
    ∃ (ao : Option Addr) (b off cap : Nat) (l : List ActV), v = .slice ao l.length cap ∧ l.length ≤ maxLen ∧ ActsAt W ao b off l := by
  obtain ⟨ao, len, cap, rfl⟩ := okWide_slice Try.underlying22 hv
  obtain ⟨fuel, hf⟩ := h
  rcases Deep.open_slice Try.underlying22 hf with ⟨hcs, _⟩ | ⟨a, len', cap', m, n, D, Pl, hcs, _, hl, hcm, hm, _, hi⟩
  · simp [Value.cells] at hcs
    obtain ⟨rfl, rfl, rfl⟩ := hcs
    exact ⟨none, 0, 0, 0, [], rfl, Nat.zero_le _, ⟨fun h => by simp at h, fun i h => by simp at h, fun i h => by simp at h⟩⟩
  · simp [Value.cells] at hcs
    obtain ⟨rfl, rfl, rfl⟩ := hcs
    have hle : len ≤ m := by rw [hm]; split <;> omega
    have each : ∀ i, i < len → ∃ x : ActV, (∀ j (hj : j < 4), W.cell? (a.add (i * 4 + j)) = [Value.int .i64 x.kind, .int .u64 x.n, .int .i64 x.width, .string (bs x.text)][j]?) ∧
        x.n < 18446744073709551616 ∧ x.text.length ≤ maxLen ∧ -9223372036854775808 ≤ x.kind ∧ x.kind ≤ 9223372036854775807 ∧ -9223372036854775808 ≤ x.width ∧ x.width ≤ 9223372036854775807 := by
      intro i hi'
      obtain ⟨cs', hc, ht⟩ := hi i (by omega)
      rw [actCells] at hc
      obtain ⟨_, hcl, hat⟩ := World.cells?_some hc
      obtain ⟨x, rfl, hx⟩ := act_of hcl ht
      refine ⟨x, fun j hj => ?_, hx⟩
      rw [← Deep.add_add]
      exact hat j hj
    have : Inhabited ActV := ⟨⟨0, 0, 0, []⟩⟩
    obtain ⟨F, hF⟩ := Deep.choose_lt each
    obtain ⟨b, off, spot⟩ := a
    have hspot : 0 < len → spot = none := fun h0 => by
      have h00 := (hF 0 h0).1 0 (by omega)
      simpa [Addr.add] using World.cell?_spot h00
    refine ⟨some ⟨b, off, spot⟩, b, off, cap, (List.range len).map F, by simp, by rw [List.length_map, List.length_range]; omega, ⟨fun h0 => ?_, fun i h => ?_, fun i h => ?_⟩⟩
    · have h0' : 0 < len := by simpa using h0
      have := hspot h0'
      subst this
      refine ⟨rfl, ?_⟩
      have h00 := (hF 0 h0').1 0 (by omega)
      rw [Addr.add_lit] at h00
      exact World.block_lt_of_cell? W _ h00
    · have h' : i < len := by simpa using h
      have := hspot (by omega)
      subst this
      have hx := (hF i h').1
      have k0 := hx 0 (by omega)
      have k1 := hx 1 (by omega)
      have k2 := hx 2 (by omega)
      have k3 := hx 3 (by omega)
      simp only [Addr.add_lit, Nat.add_zero, ← Nat.add_assoc] at k0 k1 k2 k3
      simp only [List.getElem_map, List.getElem_range]
      exact ⟨k0, k1, k2, k3⟩
    · have h' : i < len := by simpa using h
      simp only [List.getElem_map, List.getElem_range]
      exact (hF i h').2
end
end Go.Proofs.Ytkoajibjlcnjgaa
