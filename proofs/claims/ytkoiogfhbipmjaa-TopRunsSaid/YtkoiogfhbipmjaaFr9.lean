/-
  THE FRAME OF ROWS, for contracts by the abstract machine: a law that answers true, and below the heap's old size has turned nothing, meets its row; events and cells, alone and in slices, opened.
-/
import Derived.Test.YtkoiogfhbipmjaaRows
import Derived.Test.YtkoiogfhbipmjaaOf9
import Derived.ProofKit
import Derived.OpenShut
import Derived.Below
import Derived.Lib.SmallJoins
import Derived.Carry
import Derived.SliceStrings
import Derived.Deep.Slices
import Derived.Deep.Fields
import Derived.ChangeSame
namespace Go.Proofs.Ytkoiogfhbipmjaa
open Go Go.ChangeShapes Go.WideShapes Go.ChangeAt Go.RowKit Go.Joins

def evR (e : Ev) : Array Value := (evV e).toArray
def wdR (u : U) : Array Value := (wdV u.d).toArray
def ceR (x : Ce) : Array Value := (ceV x.d).toArray
theorem evR_eq (e : Ev) : evR e = #[.int .i64 e.t, .int .u64 e.v, .int .i64 e.c, .bool e.s] := rfl
structure EvsAt (W : World) (ao : Option Addr) (b off : Nat) (l : List Ev) : Prop where
  at_ : 0 < l.length → ao = some ⟨b, off, none⟩ ∧ b < W.heap.size
  row : ∀ (i : Nat) (h : i < l.length), W.rangeAt b (off + i * 4) (evR l[i]).toList
  fits : ∀ (i : Nat) (h : i < l.length), EvIn l[i]
structure CesAt (W : World) (ao : Option Addr) (b off : Nat) (l : List Ce) : Prop where
  at_ : 0 < l.length → ao = some ⟨b, off, none⟩ ∧ b < W.heap.size
  row : ∀ (i : Nat) (h : i < l.length), W.rangeAt b (off + i * 14) (ceR l[i]).toList
  fits : ∀ (i : Nat) (h : i < l.length), CeIn l[i]
/-- As the machine has it. -/
theorem EvsAt.g {W : World} {ao : Option Addr} {b off cap : Nat} {l : List Ev} (h : EvsAt W ao b off l) (hc : l.length ≤ cap) (hn : ao = none → cap = 0) : GRep W (fun b => False ∨ b ∈ ([] : List Nat)) (.sl (.ev l)) (.slice ao l.length cap) := by
  refine .sl (.ev l) ao cap (fun j c => ((evV (l.getD j ⟨0, 0, 0, false⟩))[c]?).getD undef) hc hn (fun j r c g hr hg => ?_) fun j r c g hr hg => ?_
  · obtain ⟨hj, hk⟩ := SL.at_lt hr
    have hj : j < l.length := hj
    obtain ⟨e, hb⟩ := h.at_ (by omega)
    have hr' : r = evG l[j] := by
      have : (SL.ev l).at j = some (evG l[j]) := by simp only [SL.at, List.getElem?_eq_getElem hj, Option.map_some]
      rw [this] at hr; exact (Option.some.inj hr).symm
    subst hr'
    have hv : (evV l[j])[c]? = some (((evV l[j])[c]?).getD undef) := by
      have : c < (evG l[j]).length := (List.getElem?_eq_some_iff.1 hg).1
      have : c < (evV l[j]).length := this
      rw [List.getElem?_eq_getElem this]; rfl
    refine ⟨b, off, e, (fun h => by rcases h with h | h; exact h; cases h), ?_⟩
    rw [ev_getD hj]
    exact h.row j hj c _ (by simpa [evR] using hv)
  · obtain ⟨hj, hk⟩ := SL.at_lt hr
    have hj : j < l.length := hj
    have hr' : r = evG l[j] := by
      have : (SL.ev l).at j = some (evG l[j]) := by simp only [SL.at, List.getElem?_eq_getElem hj, Option.map_some]
      rw [this] at hr; exact (Option.some.inj hr).symm
    subst hr'
    rw [ev_getD hj]
    rw [evG_v, List.getElem?_map] at hg
    cases hq : (evV l[j])[c]? with
    | none => rw [hq] at hg; cases hg
    | some u =>
      rw [hq] at hg
      cases hg
      refine GRep.v u ?_
      have hu : u ∈ evV l[j] := List.mem_of_getElem? hq
      simp only [evV, List.mem_cons, List.not_mem_nil, or_false] at hu
      rcases hu with rfl | rfl | rfl | rfl <;> rfl
/-- A law that answers true, by its contract. -/
theorem law_of {P : Program} {f : FuncId} {s : Spec} (h : CallSem P f s) (args : List XV) (vs : List Value) (W : World) (hp : (s args).p) (hr : (s args).r = [.g (.v (.bool true))]) (hrefs : (s args).refs = []) (hx : XRep W (fun b => False ∨ b ∈ ([] : List Nat)) args vs []) (hnr : noRef args = true) :
    Calls P f vs.toArray W fun e W' => e = .returned (.bool true) ∧ Below W.heap.size W W' := by
  refine (h args vs [] W (fun _ => False) .nil (fun b hb => by cases hb) (fun b hb => hb.elim) hx hp).mono ?_
  rintro e W' ⟨v, fv, rfl, hf, -, -, hres⟩
  rw [hr] at hres
  have : GRep W' _ (.v (.bool true)) v := hres
  cases this
  exact ⟨rfl, ⟨hf.os, hf.tape, hf.output, hf.size, fun k hk => hf.block k hk (by simp)⟩⟩
theorem own : ownKnob Try.prog.godebug = none := by kernel_rfl
theorem wf_u64 {n : Int} (h : (Lit.int .u64 n).wf = true) : 0 ≤ n ∧ n ≤ 18446744073709551615 := by
  simp [Lit.wf, IntKind.min, IntKind.max, IntKind.bits, IntKind.signed] at h
  omega
theorem wf_i64 {n : Int} (h : (Lit.int .i64 n).wf = true) : -9223372036854775808 ≤ n ∧ n ≤ 9223372036854775807 := by
  simp [Lit.wf, IntKind.min, IntKind.max, IntKind.bits, IntKind.signed] at h
  omega
theorem wf_u8 {n : Int} (h : (Lit.int .u8 n).wf = true) : 0 ≤ n ∧ n ≤ 255 := by
  simp [Lit.wf, IntKind.min, IntKind.max, IntKind.bits, IntKind.signed] at h
  omega
theorem wf_u16 {n : Int} (h : (Lit.int .u16 n).wf = true) : 0 ≤ n ∧ n ≤ 65535 := by
  simp [Lit.wf, IntKind.min, IntKind.max, IntKind.bits, IntKind.signed] at h
  omega
theorem laidOut : laidOutB Try.prog = true := by kernel_rfl
theorem i641 : Try.prog.cellsOf 2 = 1 := by kernel_rfl
theorem u641 : Try.prog.cellsOf 24 = 1 := by kernel_rfl
theorem bool1 : Try.prog.cellsOf 4 = 1 := by kernel_rfl
section
variable {H : Type} {enc : TypeId × Value → H} {W : World} {sp : Nat → Bool}
theorem trodAll_later {P : Program} (hl : laidOutB P = true) {W' : World} (hb : Below W.heap.size W W') :
    ∀ (ts : List TypeId) (vs : List Value) (ds : List (DataW H)) (ps : List MemPlace), (∀ t ∈ ts, P.readableRec t = true ∧ t < P.types.size) → (∀ x ∈ ps, x.block < W.heap.size) →
      DataW.TrodAll enc P W 0 (fun _ => true) true ts vs ds ps → DataW.TrodAll enc P W' 0 (fun b => decide (b < W.heap.size)) true ts vs ds ps
  | [], vs, ds, ps, _, _, h => by
    obtain ⟨rfl, rfl, rfl⟩ := trodAll_nil h
    exact trodAll_mk0
  | t :: ts, vs, ds, ps, ht, hp, h => by
    obtain ⟨v, vs', d, ds', p, q, rfl, rfl, rfl, h1, h2⟩ := trodAll_cons h
    exact trodAll_cons_mk (Below.trod hl (ht t (by simp)).1 (ht t (by simp)).2 h1 hb (fun x hx => hp x (by simp [hx])))
      (trodAll_later hl hb ts vs' ds' q (fun u hu => ht u (by simp [hu])) (fun x hx => hp x (by simp [hx])) h2)

set_option maxRecDepth 100000 in
/-- What a law's row asks behind the call. -/
theorem law_post {P : Program} {f : Func} {s : ChangeSpec} {W' : World} {args : Array Value} {ds gs : List (DataW H)} {before : List MemPlace} (hl : laidOutB P = true) (hW : DataW.Whole enc P f.params.toList s.vars false W args.toList ds gs before)
    (hv : s.vars = []) (hread : f.params.toList.all (fun t => P.readableRec t && decide (t < P.types.size)) = true) (hb : Below W.heap.size W W')
    (hfn : s.fn H (ds ++ gs) = { results := [.lit (.bool true)], args := ds }) (hr : f.resultTypes = #[4]) (hbool : P.underlying 4 = some .bool) :
    s.post enc P f false true false false W args (.bool true) W' := by
  have hW' := hW
  obtain ⟨p, q, hA, hV, rfl, _, _⟩ := hW
  have hlt : ∀ x ∈ p, x.block < W.heap.size := fun x hx => hW'.lt x (by simp [hx])
  have hargs := trodAll_later hl hb _ _ _ p (fun t ht => by
    have := List.all_eq_true.1 hread t ht
    simpa using this) hlt hA
  refine ⟨ds, gs, _, [], p, [], hW', ?_, ?_, ?_, hb.frame _, fun h => by cases h⟩
  · rw [hfn, hr]
    exact trodAll_cons_mk (shut_bool hbool true) trodAll_mk0
  · rw [hfn]; exact hargs
  · rw [hfn, hv]; exact rfl

theorem evFields : Try.prog.underlying 26 = some (.struct (Try.prog.fieldsOf 26)) := by kernel_rfl
theorem evCells : Try.prog.cellsOf 26 = 4 := by kernel_rfl
theorem evTypes : (Try.prog.fieldsOf 26).map (fun f => (f.type, f.offset)) = #[(2, 0), (24, 1), (2, 2), (4, 3)] := by kernel_rfl
set_option maxRecDepth 100000 in
theorem ev_of {base n : Nat} {held : Bool} {cs : List Value} {x : DataW H × List MemPlace} (hlen : cs.length = 4) (h : DataW.trod enc Try.prog W base sp held n 26 cs = some x) :
    ∃ e : Ev, cs = (evR e).toList ∧ EvIn e := by
  obtain ⟨ys, n', hn', hy, hl2, hyl, hf⟩ := DataW.trod_struct evFields h
  match cs, hlen with
  | [c0, c1, c2, c3], _ =>
  have hsz : (Try.prog.fieldsOf 26).size = 4 := by have := congrArg Array.size evTypes; simpa using this
  have ft : ∀ j (hj : j < 4), ∃ f, (Try.prog.fieldsOf 26)[j]? = some f ∧ (f.type, f.offset) = [(2, 0), (24, 1), (2, 2), (4, 3)][j] := by
    intro j hj
    have hg : (Try.prog.fieldsOf 26)[j]? = some ((Try.prog.fieldsOf 26)[j]'(by rw [hsz]; exact hj)) := Array.getElem?_eq_getElem _
    refine ⟨_, hg, ?_⟩
    have e := congrArg (fun a => a[j]?) evTypes
    rw [Array.getElem?_map, hg, Option.map_some] at e
    match j, hj with
    | 0, _ => exact Option.some.inj e
    | 1, _ => exact Option.some.inj e
    | 2, _ => exact Option.some.inj e
    | 3, _ => exact Option.some.inj e
  obtain ⟨f0, g0, e0⟩ := ft 0 (by omega)
  obtain ⟨f1, g1, e1⟩ := ft 1 (by omega)
  obtain ⟨f2, g2, e2⟩ := ft 2 (by omega)
  obtain ⟨f3, g3, e3⟩ := ft 3 (by omega)
  have y0 : ys[0]? = some (ys[0]'(by omega)) := List.getElem?_eq_getElem _
  have y1 : ys[1]? = some (ys[1]'(by omega)) := List.getElem?_eq_getElem _
  have y2 : ys[2]? = some (ys[2]'(by omega)) := List.getElem?_eq_getElem _
  have y3 : ys[3]? = some (ys[3]'(by omega)) := List.getElem?_eq_getElem _
  simp only [List.getElem_cons_zero, List.getElem_cons_succ, Prod.mk.injEq] at e0 e1 e2 e3
  have h0 := hf 0 f0 g0
  have h1 := hf 1 f1 g1
  have h2 := hf 2 f2 g2
  have h3 := hf 3 f3 g3
  rw [e0.1, e0.2, i641, y0] at h0
  rw [e1.1, e1.2, u641, y1] at h1
  rw [e2.1, e2.2, i641, y2] at h2
  rw [e3.1, e3.2, bool1, y3] at h3
  simp at h0 h1 h2 h3
  obtain ⟨z0, b0, _, w0⟩ := DataW.trod_int Try.underlying2 h0
  obtain ⟨z1, b1, _, w1⟩ := DataW.trod_int Try.underlying24 h1
  obtain ⟨z2, b2, _, w2⟩ := DataW.trod_int Try.underlying2 h2
  obtain ⟨z3, b3, _⟩ := DataW.trod_bool Try.underlying4 h3
  simp at b0 b1 b2 b3
  subst b0 b1 b2 b3
  obtain ⟨p0, p1⟩ := wf_i64 w0
  obtain ⟨q0, q1⟩ := wf_u64 w1
  obtain ⟨r0, r1⟩ := wf_i64 w2
  exact ⟨⟨z0, z1, z2, z3⟩, rfl, p0, p1, q0, q1, r0, r1⟩
theorem wdFields : Try.prog.underlying 28 = some (.struct (Try.prog.fieldsOf 28)) := by kernel_rfl
theorem wdCells : Try.prog.cellsOf 28 = 2 := by kernel_rfl
theorem wdTypes : (Try.prog.fieldsOf 28).map (fun f => (f.type, f.offset)) = #[(24, 0), (24, 1)] := by kernel_rfl
set_option maxRecDepth 100000 in
theorem wd_of {base n : Nat} {held : Bool} {cs : List Value} {x : DataW H × List MemPlace} (hlen : cs.length = 2) (h : DataW.trod enc Try.prog W base sp held n 28 cs = some x) :
    ∃ e : U, cs = (wdR e).toList ∧ True := by
  obtain ⟨ys, n', hn', hy, hl2, hyl, hf⟩ := DataW.trod_struct wdFields h
  match cs, hlen with
  | [c0, c1], _ =>
  have hsz : (Try.prog.fieldsOf 28).size = 2 := by have := congrArg Array.size wdTypes; simpa using this
  have ft : ∀ j (hj : j < 2), ∃ f, (Try.prog.fieldsOf 28)[j]? = some f ∧ (f.type, f.offset) = [(24, 0), (24, 1)][j] := by
    intro j hj
    have hg : (Try.prog.fieldsOf 28)[j]? = some ((Try.prog.fieldsOf 28)[j]'(by rw [hsz]; exact hj)) := Array.getElem?_eq_getElem _
    refine ⟨_, hg, ?_⟩
    have e := congrArg (fun a => a[j]?) wdTypes
    rw [Array.getElem?_map, hg, Option.map_some] at e
    match j, hj with
    | 0, _ => exact Option.some.inj e
    | 1, _ => exact Option.some.inj e
  obtain ⟨f0, g0, e0⟩ := ft 0 (by omega)
  obtain ⟨f1, g1, e1⟩ := ft 1 (by omega)
  have y0 : ys[0]? = some (ys[0]'(by omega)) := List.getElem?_eq_getElem _
  have y1 : ys[1]? = some (ys[1]'(by omega)) := List.getElem?_eq_getElem _
  simp only [List.getElem_cons_zero, List.getElem_cons_succ, Prod.mk.injEq] at e0 e1
  have h0 := hf 0 f0 g0
  have h1 := hf 1 f1 g1
  rw [e0.1, e0.2, u641, y0] at h0
  rw [e1.1, e1.2, u641, y1] at h1
  simp at h0 h1
  obtain ⟨z0, b0, _, w0⟩ := DataW.trod_int Try.underlying24 h0
  obtain ⟨z1, b1, _, w1⟩ := DataW.trod_int Try.underlying24 h1
  simp at b0 b1
  subst b0 b1
  obtain ⟨p0, p1⟩ := wf_u64 w0
  obtain ⟨q0, q1⟩ := wf_u64 w1
  obtain ⟨u, rfl, rfl, _⟩ := U.of_halves z0 z1 p0 p1 q0 q1
  exact ⟨u, rfl, trivial⟩
theorem ceFields : Try.prog.underlying 30 = some (.struct (Try.prog.fieldsOf 30)) := by kernel_rfl
theorem ceCells : Try.prog.cellsOf 30 = 14 := by kernel_rfl
theorem ceTypes : (Try.prog.fieldsOf 30).map (fun f => (f.type, f.offset)) = #[(2, 0), (26, 1), (26, 5), (28, 9), (2, 11), (2, 12), (2, 13)] := by kernel_rfl
set_option maxRecDepth 100000 in
theorem ce_of {base n : Nat} {held : Bool} {cs : List Value} {x : DataW H × List MemPlace} (hlen : cs.length = 14) (h : DataW.trod enc Try.prog W base sp held n 30 cs = some x) :
    ∃ e : Ce, cs = (ceR e).toList ∧ CeIn e := by
  obtain ⟨ys, n', hn', hy, hl2, hyl, hf⟩ := DataW.trod_struct ceFields h
  match cs, hlen with
  | [c0, c1, c2, c3, c4, c5, c6, c7, c8, c9, c10, c11, c12, c13], _ =>
  have hsz : (Try.prog.fieldsOf 30).size = 7 := by have := congrArg Array.size ceTypes; simpa using this
  have ft : ∀ j (hj : j < 7), ∃ f, (Try.prog.fieldsOf 30)[j]? = some f ∧ (f.type, f.offset) = [(2, 0), (26, 1), (26, 5), (28, 9), (2, 11), (2, 12), (2, 13)][j] := by
    intro j hj
    have hg : (Try.prog.fieldsOf 30)[j]? = some ((Try.prog.fieldsOf 30)[j]'(by rw [hsz]; exact hj)) := Array.getElem?_eq_getElem _
    refine ⟨_, hg, ?_⟩
    have e := congrArg (fun a => a[j]?) ceTypes
    rw [Array.getElem?_map, hg, Option.map_some] at e
    match j, hj with
    | 0, _ => exact Option.some.inj e
    | 1, _ => exact Option.some.inj e
    | 2, _ => exact Option.some.inj e
    | 3, _ => exact Option.some.inj e
    | 4, _ => exact Option.some.inj e
    | 5, _ => exact Option.some.inj e
    | 6, _ => exact Option.some.inj e
  obtain ⟨f0, g0, e0⟩ := ft 0 (by omega)
  obtain ⟨f1, g1, e1⟩ := ft 1 (by omega)
  obtain ⟨f2, g2, e2⟩ := ft 2 (by omega)
  obtain ⟨f3, g3, e3⟩ := ft 3 (by omega)
  obtain ⟨f4, g4, e4⟩ := ft 4 (by omega)
  obtain ⟨f5, g5, e5⟩ := ft 5 (by omega)
  obtain ⟨f6, g6, e6⟩ := ft 6 (by omega)
  have y0 : ys[0]? = some (ys[0]'(by omega)) := List.getElem?_eq_getElem _
  have y1 : ys[1]? = some (ys[1]'(by omega)) := List.getElem?_eq_getElem _
  have y2 : ys[2]? = some (ys[2]'(by omega)) := List.getElem?_eq_getElem _
  have y3 : ys[3]? = some (ys[3]'(by omega)) := List.getElem?_eq_getElem _
  have y4 : ys[4]? = some (ys[4]'(by omega)) := List.getElem?_eq_getElem _
  have y5 : ys[5]? = some (ys[5]'(by omega)) := List.getElem?_eq_getElem _
  have y6 : ys[6]? = some (ys[6]'(by omega)) := List.getElem?_eq_getElem _
  simp only [List.getElem_cons_zero, List.getElem_cons_succ, Prod.mk.injEq] at e0 e1 e2 e3 e4 e5 e6
  have h0 := hf 0 f0 g0
  have h1 := hf 1 f1 g1
  have h2 := hf 2 f2 g2
  have h3 := hf 3 f3 g3
  have h4 := hf 4 f4 g4
  have h5 := hf 5 f5 g5
  have h6 := hf 6 f6 g6
  rw [e0.1, e0.2, i641, y0] at h0
  rw [e1.1, e1.2, evCells, y1] at h1
  rw [e2.1, e2.2, evCells, y2] at h2
  rw [e3.1, e3.2, wdCells, y3] at h3
  rw [e4.1, e4.2, i641, y4] at h4
  rw [e5.1, e5.2, i641, y5] at h5
  rw [e6.1, e6.2, i641, y6] at h6
  simp at h0 h1 h2 h3 h4 h5 h6
  obtain ⟨z0, b0, _, w0⟩ := DataW.trod_int Try.underlying2 h0
  obtain ⟨z1, b1, w1⟩ := ev_of rfl h1
  simp [evR] at b1
  obtain ⟨z2, b2, w2⟩ := ev_of rfl h2
  simp [evR] at b2
  obtain ⟨z3, b3, w3⟩ := wd_of rfl h3
  simp [wdR] at b3
  obtain ⟨z4, b4, _, w4⟩ := DataW.trod_int Try.underlying2 h4
  obtain ⟨z5, b5, _, w5⟩ := DataW.trod_int Try.underlying2 h5
  obtain ⟨z6, b6, _, w6⟩ := DataW.trod_int Try.underlying2 h6
  simp at b0 b4 b5 b6
  subst b0 b4 b5 b6
  obtain ⟨rfl, rfl, rfl, rfl⟩ := b1
  obtain ⟨rfl, rfl, rfl, rfl⟩ := b2
  obtain ⟨rfl, rfl⟩ := b3
  obtain ⟨n0, n1⟩ := wf_i64 w0
  obtain ⟨r0, r1⟩ := wf_i64 w4
  obtain ⟨g0, g1⟩ := wf_i64 w5
  obtain ⟨s0, s1⟩ := wf_i64 w6
  exact ⟨⟨z0, z1, z2, z3, z4, z5, z6⟩, rfl, w1, w2, n0, n1, r0, r1, g0, g1, s0, s1⟩

theorem open_ev {r : Reach} {b0 base : Nat} {held : Bool} {v : Value} {d : DataW H} {p : List MemPlace} (hv : Value.okWide Try.prog W r b0 26 v) (h : DataW.Trod enc Try.prog W base sp held 26 v d p) :
    ∃ e : Ev, v = .agg (evR e) ∧ EvIn e := by
  obtain ⟨cs, rfl, hsz⟩ := okWide_struct evFields hv
  obtain ⟨fuel, hf⟩ := h
  obtain ⟨e, he, hi⟩ := ev_of (by rw [evCells] at hsz; simpa [Value.cells] using hsz) hf
  refine ⟨e, ?_, hi⟩
  have : cs = evR e := Array.ext' (by simpa [Value.cells] using he)
  rw [this]
set_option maxRecDepth 100000 in
theorem open_evs {r : Reach} {b0 base : Nat} {held : Bool} {v : Value} {d : DataW H} {p : List MemPlace} (hv : Value.okWide Try.prog W r b0 22 v) (h : DataW.Trod enc Try.prog W base sp held 22 v d p) :
    ∃ (ao : Option Addr) (b off cap : Nat) (l : List Ev), v = .slice ao l.length cap ∧ l.length ≤ maxLen ∧ EvsAt W ao b off l ∧ l.length ≤ cap ∧ (ao = none → cap = 0) := by
  obtain ⟨ao, len, cap, rfl⟩ := okWide_slice Try.underlying22 hv
  obtain ⟨fuel, hf⟩ := h
  rcases Deep.open_slice Try.underlying22 hf with ⟨hcs, _⟩ | ⟨a, len', cap', m, n, D, Pl, hcs, _, hl, hcm, hm, _, hi⟩
  · simp [Value.cells] at hcs
    obtain ⟨rfl, rfl, rfl⟩ := hcs
    exact ⟨none, 0, 0, 0, [], rfl, Nat.zero_le _, ⟨fun h => by simp at h, fun i h => by simp at h, fun i h => by simp at h⟩, Nat.le_refl _, fun _ => rfl⟩
  · simp [Value.cells] at hcs
    obtain ⟨rfl, rfl, rfl⟩ := hcs
    have hle : len ≤ m := by rw [hm]; split <;> omega
    have each : ∀ i, i < len → ∃ x : Ev, (∀ j (hj : j < 4), W.cell? (a.add (i * 4 + j)) = (evR x).toList[j]?) ∧ EvIn x := by
      intro i hi'
      obtain ⟨cs', hc, ht⟩ := hi i (by omega)
      rw [evCells] at hc
      obtain ⟨_, hcl, hat⟩ := World.cells?_some hc
      obtain ⟨x, rfl, hx⟩ := ev_of hcl ht
      refine ⟨x, fun j hj => ?_, hx⟩
      rw [← Deep.add_add]
      exact hat j hj
    have : Inhabited Ev := ⟨zeroEv⟩
    obtain ⟨F, hF⟩ := Deep.choose_lt each
    obtain ⟨b, off, spot⟩ := a
    have hspot : 0 < len → spot = none := fun h0 => by
      have h00 := (hF 0 h0).1 0 (by omega)
      simpa [Addr.add] using World.cell?_spot h00
    refine ⟨some ⟨b, off, spot⟩, b, off, cap, (List.range len).map F, by simp, by rw [List.length_map, List.length_range]; omega, ⟨fun h0 => ?_, fun i h => ?_, fun i h => ?_⟩, by rw [List.length_map, List.length_range]; exact hl, fun h => by cases h⟩
    · have h0' : 0 < len := by simpa using h0
      have := hspot h0'
      subst this
      refine ⟨rfl, ?_⟩
      have h00 := (hF 0 h0').1 0 (by omega)
      rw [Addr.add_lit] at h00
      exact World.block_lt_of_cell? W _ h00
    · have h' : i < len := by simpa using h
      have := hspot (by omega)
      subst this
      have hx := (hF i h').1
      simp only [List.getElem_map, List.getElem_range]
      intro j v hv
      have hj : j < 4 := (List.getElem?_eq_some_iff.1 hv).1
      have k := hx j hj
      simp only [Addr.add_lit, ← Nat.add_assoc] at k
      rw [k]
      exact hv
    · have h' : i < len := by simpa using h
      simp only [List.getElem_map, List.getElem_range]
      exact (hF i h').2

theorem open_ce {r : Reach} {b0 base : Nat} {held : Bool} {v : Value} {d : DataW H} {p : List MemPlace} (hv : Value.okWide Try.prog W r b0 30 v) (h : DataW.Trod enc Try.prog W base sp held 30 v d p) :
    ∃ e : Ce, v = .agg (ceR e) ∧ CeIn e := by
  obtain ⟨cs, rfl, hsz⟩ := okWide_struct ceFields hv
  obtain ⟨fuel, hf⟩ := h
  obtain ⟨e, he, hi⟩ := ce_of (by rw [ceCells] at hsz; simpa [Value.cells] using hsz) hf
  refine ⟨e, ?_, hi⟩
  have : cs = ceR e := Array.ext' (by simpa [Value.cells] using he)
  rw [this]
theorem u161 : Try.prog.cellsOf 38 = 1 := by kernel_rfl
theorem u16s1 : Try.prog.cellsOf 37 = 1 := by kernel_rfl
theorem u16s_of {base n : Nat} {held : Bool} {cs : List Value} {x : DataW H × List MemPlace} (h : DataW.trod enc Try.prog W base sp held n 37 cs = some x) :
    ∃ (v : Value) (xs : List Int), cs = [v] ∧ GRep W (fun b => False ∨ b ∈ ([] : List Nat)) (.sl (.int .u16 xs)) v ∧ ∀ y, y ∈ xs → 0 ≤ y ∧ y ≤ 65535 := by
  rcases Deep.open_slice Try.underlying37 h with ⟨hcs, _⟩ | ⟨a, len, cap, m, n, D, Pl, hcs, _, hl, hcm, hm, _, hi⟩
  · refine ⟨_, [], hcs, ?_, fun y hy => by cases hy⟩
    exact .sl (.int .u16 []) none 0 (fun _ _ => undef) (Nat.le_refl _) (fun _ => rfl) (fun j r c g hr _ => by simp [SL.at] at hr) (fun j r c g hr _ => by simp [SL.at] at hr)
  · have hle : len ≤ m := by rw [hm]; split <;> omega
    have each : ∀ i, i < len → ∃ z : Int, W.cell? (a.add i) = some (.int .u16 z) ∧ 0 ≤ z ∧ z ≤ 65535 := by
      intro i hi'
      obtain ⟨cs', hc, ht⟩ := hi i (by omega)
      rw [u161] at hc
      obtain ⟨_, hcl, hat⟩ := World.cells?_some hc
      obtain ⟨z, b0, _, w0⟩ := DataW.trod_int Try.underlying38 ht
      obtain ⟨p0, p1⟩ := wf_u16 w0
      refine ⟨z, ?_, p0, p1⟩
      have h0 := hat 0 (by omega)
      rw [b0] at h0
      rw [Deep.add_add] at h0; simpa using h0
    obtain ⟨F, hF⟩ := Deep.choose_lt each
    obtain ⟨b, off, spot⟩ := a
    have hspot : 0 < len → spot = none := fun h0 => by
      have h00 := (hF 0 h0).1
      simpa [Addr.add] using World.cell?_spot h00
    have hat : ∀ {j : Nat} {r : List GV}, (SL.int .u16 ((List.range len).map F)).at j = some r → j < len ∧ r = [.v (.int .u16 (F j))] := fun {j r} hr => by
      have hj : j < ((List.range len).map F).length := (SL.at_lt hr).1
      have hj' : j < len := by simpa using hj
      simp only [SL.at, List.getElem?_eq_getElem hj, Option.map_some, List.getElem_map, List.getElem_range] at hr
      exact ⟨hj', (Option.some.inj hr).symm⟩
    refine ⟨_, (List.range len).map F, hcs, ?_, fun y hy => ?_⟩
    · have e : len = (SL.int .u16 ((List.range len).map F)).len := by simp [SL.len]
      have := GRep.sl (w := W) (W := fun b => False ∨ b ∈ ([] : List Nat)) (.int .u16 ((List.range len).map F)) (some ⟨b, off, spot⟩) cap (fun j _ => .int .u16 (F j)) (by rw [← e]; exact hl) (fun h => by cases h) (fun j r c g hr hg => ?_) (fun j r c g hr hg => ?_)
      · rwa [← e] at this
      · obtain ⟨hj, rfl⟩ := hat hr
        have hsp := hspot (by omega)
        subst hsp
        have hc0 : c = 0 := by
          have : c < 1 := (List.getElem?_eq_some_iff.1 hg).1
          omega
        subst hc0
        refine ⟨b, off, rfl, (fun h => by rcases h with h | h; exact h; cases h), ?_⟩
        have := (hF j hj).1
        simpa [Addr.add_lit, SL.k] using this
      · obtain ⟨hj, rfl⟩ := hat hr
        have hc0 : c = 0 := by
          have : c < 1 := (List.getElem?_eq_some_iff.1 hg).1
          omega
        subst hc0
        simp at hg
        subst hg
        exact GRep.v _ rfl
    · obtain ⟨j, hj, rfl⟩ := List.mem_map.1 hy
      exact (hF j (List.mem_range.1 hj)).2
structure RunsAt (W : World) (ao : Option Addr) (cap : Nat) (l : List (List Int)) : Prop where
  g' : GRep W (fun b => False ∨ b ∈ ([] : List Nat)) (.sl (.ints .u16 l)) (.slice ao l.length cap)
  bd : ∀ x, x ∈ l → ∀ y, y ∈ x → 0 ≤ y ∧ y ≤ 65535
theorem RunsAt.g {ao : Option Addr} {cap : Nat} {l : List (List Int)} (h : RunsAt W ao cap l) (_ : True) (_ : True) : GRep W (fun b => False ∨ b ∈ ([] : List Nat)) (.sl (.ints .u16 l)) (.slice ao l.length cap) := h.g'
theorem open_runs {r : Reach} {b0 base : Nat} {held : Bool} {v : Value} {d : DataW H} {p : List MemPlace} (hv : Value.okWide Try.prog W r b0 36 v) (h : DataW.Trod enc Try.prog W base sp held 36 v d p) :
    ∃ (ao : Option Addr) (b off cap : Nat) (l : List (List Int)), v = .slice ao l.length cap ∧ b = off ∧ RunsAt W ao cap l ∧ True ∧ True := by
  obtain ⟨ao, len, cap, rfl⟩ := okWide_slice Try.underlying36 hv
  obtain ⟨fuel, hf⟩ := h
  rcases Deep.open_slice Try.underlying36 hf with ⟨hcs, _⟩ | ⟨a, len', cap', m, n, D, Pl, hcs, _, hl, hcm, hm, _, hi⟩
  · simp [Value.cells] at hcs
    obtain ⟨rfl, rfl, rfl⟩ := hcs
    refine ⟨none, 0, 0, 0, [], rfl, rfl, ⟨?_, fun x hx => by cases hx⟩, trivial, trivial⟩
    exact .sl (.ints .u16 []) none 0 (fun _ _ => undef) (Nat.le_refl _) (fun _ => rfl) (fun j r c g hr _ => by simp [SL.at] at hr) (fun j r c g hr _ => by simp [SL.at] at hr)
  · simp [Value.cells] at hcs
    obtain ⟨rfl, rfl, rfl⟩ := hcs
    have hle : len ≤ m := by rw [hm]; split <;> omega
    have each : ∀ i, i < len → ∃ z : Value × List Int, W.cell? (a.add i) = some z.1 ∧ GRep W (fun b => False ∨ b ∈ ([] : List Nat)) (.sl (.int .u16 z.2)) z.1 ∧ ∀ y, y ∈ z.2 → 0 ≤ y ∧ y ≤ 65535 := by
      intro i hi'
      obtain ⟨cs', hc, ht⟩ := hi i (by omega)
      rw [u16s1] at hc
      obtain ⟨_, hcl, hat⟩ := World.cells?_some hc
      obtain ⟨v, xs, b0, w0, w1⟩ := u16s_of ht
      refine ⟨(v, xs), ?_, w0, w1⟩
      have h0 := hat 0 (by omega)
      rw [b0] at h0
      rw [Deep.add_add] at h0; simpa using h0
    have : Inhabited (Value × List Int) := ⟨(undef, [])⟩
    obtain ⟨F, hF⟩ := Deep.choose_lt each
    obtain ⟨b, off, spot⟩ := a
    have hspot : 0 < len → spot = none := fun h0 => by
      have h00 := (hF 0 h0).1
      simpa [Addr.add] using World.cell?_spot h00
    have hat : ∀ {j : Nat} {r : List GV}, (SL.ints .u16 ((List.range len).map fun i => (F i).2)).at j = some r → j < len ∧ r = [.sl (.int .u16 (F j).2)] := fun {j r} hr => by
      have hj : j < ((List.range len).map fun i => (F i).2).length := (SL.at_lt hr).1
      have hj' : j < len := by simpa using hj
      simp only [SL.at, List.getElem?_eq_getElem hj, Option.map_some, List.getElem_map, List.getElem_range] at hr
      exact ⟨hj', (Option.some.inj hr).symm⟩
    have e : len = ((List.range len).map fun i => (F i).2).length := by simp
    refine ⟨some ⟨b, off, spot⟩, 0, 0, cap, (List.range len).map fun i => (F i).2, by rw [← e], rfl, ⟨?_, fun x hx => ?_⟩, trivial, trivial⟩
    · refine GRep.sl (w := W) (W := fun b => False ∨ b ∈ ([] : List Nat)) (.ints .u16 ((List.range len).map fun i => (F i).2)) (some ⟨b, off, spot⟩) cap (fun j _ => (F j).1) (by show List.length _ ≤ _; rw [← e]; exact hl) (fun h => by cases h) (fun j r c g hr hg => ?_) (fun j r c g hr hg => ?_)
      · obtain ⟨hj, rfl⟩ := hat hr
        have hsp := hspot (by omega)
        subst hsp
        have hc0 : c = 0 := by
          have : c < 1 := (List.getElem?_eq_some_iff.1 hg).1
          omega
        subst hc0
        refine ⟨b, off, rfl, (fun h => by rcases h with h | h; exact h; cases h), ?_⟩
        have := (hF j hj).1
        simpa [Addr.add_lit, SL.k] using this
      · obtain ⟨hj, rfl⟩ := hat hr
        have hc0 : c = 0 := by
          have : c < 1 := (List.getElem?_eq_some_iff.1 hg).1
          omega
        subst hc0
        simp at hg
        subst hg
        exact (hF j hj).2.1
    · obtain ⟨j, hj, rfl⟩ := List.mem_map.1 hx
      exact (hF j (List.mem_range.1 hj)).2.2
end
end Go.Proofs.Ytkoiogfhbipmjaa
