/-
  OF NO FUNCTION: a row of bytes of the call's own, whatever of it may not be written (a stretch within what is told, or behind all of it): appending a string's bytes, reading it as a string, making it of a string.
-/
import Derived.Test.YticmkepocacmhaaRd
import Derived.Lib.AppendStr
import Derived.Lib.FrozenHead
import Derived.Laws.IdiomCopy
import Derived.Laws.IdiomStrings
import Derived.Deep.RegionLaw
namespace Go.Proofs.Yticmkepocacmhaa
open Go Go.RowKit

/-- A byte as a cell. -/
def u8v (b : UInt8) : Value := .int .u8 b.toNat
theorem strCells_bs (l : List UInt8) : Lib.strCells (bs l) = l.map u8v := rfl
theorem u8v_inj {a b : List UInt8} (h : a.map u8v = b.map u8v) : a = b := by
  induction a generalizing b with
  | nil => cases b <;> simp_all
  | cons x t ih =>
    cases b with
    | nil => simp at h
    | cons y u =>
      simp only [List.map_cons, List.cons.injEq] at h
      have : x = y := by
        have h1 := h.1
        simp only [u8v, Value.int.injEq, true_and] at h1
        exact UInt8.toNat_inj.1 (by omega)
      rw [this, ih h.2]

/-- Behind storing cells into a row. -/
theorem setCells_blk (g : Nat) (t : TypeId) (fz : Nat × Nat) : ∀ (vs : List Value) (o : Nat) (cur : Array Value) (w : World), w.heap[g]? = some (.cells cur t fz) → o + vs.length ≤ cur.size →
    ∃ nxt, (w.setCells g o vs).heap[g]? = some (.cells nxt t fz) ∧ nxt.size = cur.size ∧ nxt.toList.take o = cur.toList.take o ∧ (nxt.toList.drop o).take vs.length = vs
  | [], o, cur, w, hg, _ => ⟨cur, hg, rfl, rfl, rfl⟩
  | v :: r, o, cur, w, hg, hl => by
    have h1 := set_blk (i := o) hg v
    obtain ⟨nxt, a, b, c, d⟩ := setCells_blk g t fz r (o + 1) (cur.set! o v) (w.setCell ⟨g, o, none⟩ v) h1 (by simp at hl ⊢; omega)
    have ho : o < cur.size := by simp at hl; omega
    have ho2 : o < nxt.size := by rw [b]; simpa using ho
    have e2 : (cur.set! o v).toList = cur.toList.set o v := by simp
    rw [e2] at c
    refine ⟨nxt, a, by rw [b]; simp, ?_, ?_⟩
    · have := congrArg (List.take o) c
      rw [List.take_take, List.take_take, Nat.min_eq_left (by omega)] at this
      rw [this, List.take_set_of_le (by omega)]
    · have hv : nxt.toList[o]? = some v := by
        have := congrArg (fun l => l[o]?) c
        simp only [List.getElem?_take, Nat.lt_succ_self, if_true] at this
        rw [this]
        simp [ho]
      have hcons : nxt.toList.drop o = v :: nxt.toList.drop (o + 1) := by
        rw [List.drop_eq_getElem_cons (by simpa using ho2)]
        rw [List.getElem?_eq_getElem (by simpa using ho2)] at hv
        rw [Option.some.inj hv]
      rw [hcons]
      simp only [List.length_cons, List.take_succ_cons, d]

theorem Step.setCells {S : Nat → Prop} {g : Nat} (hS : S g) : ∀ (vs : List Value) (o : Nat) {a w : World}, Step S a w → Step S a (w.setCells g o vs)
  | [], _, _, _, h => h
  | v :: r, o, _, _, h => Step.setCells hS r (o + 1) (h.setCell (p := ⟨g, o, none⟩) hS v)
/-- A row of the bytes l. -/
structure Row (w : World) (g cap : Nat) (l : List UInt8) : Prop where
  row : ∃ (cur : Array Value) (fz : Nat × Nat), w.heap[g]? = some (.cells cur 5 fz) ∧ (fz.2 ≤ l.length ∨ cap ≤ fz.1) ∧ cur.size = cap ∧ l.length ≤ cap ∧ cap ≤ maxLen ∧ cur.toList.take l.length = l.map u8v
section
variable {w : World} {g cap : Nat} {l : List UInt8}
theorem Row.lt (h : Row w g cap l) : g < w.heap.size := by obtain ⟨_, _, h, _⟩ := h.row; exact lt_blk h
theorem Row.step {S : Nat → Prop} {w' : World} (h : Row w g cap l) (hs : Step S w w') (hn : ¬ S g) : Row w' g cap l := by
  have hl := h.lt
  obtain ⟨cur, fz, hg, r⟩ := h.row
  exact ⟨cur, fz, (hs.block g hl hn).trans hg, r⟩
theorem Row.drew (h : Row w g cap l) : Row w.drew g cap l := ⟨h.row⟩
theorem Row.le (h : Row w g cap l) : l.length ≤ cap := by obtain ⟨_, _, _, _, _, h, _⟩ := h.row; exact h
theorem Row.capLe (h : Row w g cap l) : cap ≤ maxLen := by obtain ⟨_, _, _, _, _, _, h, _⟩ := h.row; exact h
theorem Row.cell (h : Row w g cap l) {j : Nat} (hj : j < l.length) : w.cell? ⟨g, j, none⟩ = some (.int .u8 (l[j].toNat : Int)) := by
  obtain ⟨cur, fz, hg, _, hz, hc, _, ht⟩ := h.row
  rw [cell_blk hg]
  have := congrArg (fun x => x[j]?) ht
  simp only [List.getElem?_take, hj, if_true, List.getElem?_map, List.getElem?_eq_getElem hj, Option.map_some] at this
  simpa [u8v] using this
theorem info_u8 : (Try.prog.info? 5).map (fun i => (i.zero, i.size, i.bytes)) = some (some (.int .u8 0), 1, 1) := by kernel_rfl

/-- A NEW ROW: what 'append' onto nothing, or a conversion, makes: the law's words. -/
theorem Row.of_owns {base n cap : Nat} (h : w.ownsRow base 5 1 (.slice (some ⟨g, 0, none⟩) n cap) n (l.map u8v)) : Row w g cap l := by
  obtain ⟨h1, h2⟩ := h
  have hn : l.length = n := by simpa using h1
  rcases h2 with ⟨h, _⟩ | ⟨g', cap', cur, he, _, hg, hc, hm, hz, ht⟩
  · cases h
  · cases he
    refine ⟨cur, (0, 0), hg, Or.inl (Nat.zero_le _), by simpa using hz, by omega, hm, ?_⟩
    simpa [hn] using ht
theorem Row.of_string (w : World) (s : List UInt8) (hs : s.length ≤ 140737488355328) :
    Row (w.drew.alloc (.cells (bytesRow (bs s) (grownCap w (bs s).size 0 5)) 5 ((bytesRow (bs s) (grownCap w (bs s).size 0 5)).size, (bytesRow (bs s) (grownCap w (bs s).size 0 5)).size + 1))) w.heap.size (grownCap w (bs s).size 0 5) s := by
  have hge := grownCap_ge w (bs s).size 0 5
  have hcm := grownCap_le_maxLen w (bs s).size 0 5 (by rw [bs_size]; unfold maxLen; omega)
  have hsz : (bytesRow (bs s) (grownCap w (bs s).size 0 5)).size = grownCap w (bs s).size 0 5 := by
    have : (bs s).data.size = (bs s).size := rfl
    simp only [bytesRow, Array.size_append, Array.size_map, Array.size_replicate, this]
    omega
  refine ⟨_, _, alloc_blk w.drew _, Or.inr (by rw [hsz]; exact Nat.le_refl _), hsz, by rw [bs_size] at hge; exact hge, hcm, ?_⟩
  have : (bs s).data.toList = s := rfl
  simp only [bytesRow, Array.toList_append, Array.toList_map, this]
  rw [List.take_append_of_le_length (by simp)]
  exact List.take_of_length_le (by simp)
end

/-- append(b, s...): SOME row of both, in SOME world that is the old one but for b's row and new blocks. -/
theorem run_append_row {w : World} {g cap : Nat} {l : List UInt8} (h : Row w g cap l) (s : List UInt8) (hs : l.length + s.length ≤ 140737488355328) (ty : TypeId) :
    ∃ g' cap' w', (Builtin.append_ #[75, 9] ty #[.slice (some ⟨g, 0, none⟩) l.length cap, .string (bs s)]).run Try.prog w = .ok (.slice (some ⟨g', 0, none⟩) (l.length + s.length) cap') w' ∧
      Row w' g' cap' (l ++ s) ∧ Step (· = g) w w' ∧ (g' = g ∨ w.heap.size ≤ g') := by
  obtain ⟨i, hi, hz0, hz1, hz2⟩ := info_parts info_u8
  obtain ⟨cur, fz, hg, hfz, hcs, hle, hcm, htake⟩ := h.row
  have hbz := bs_size s
  by_cases hroom : l.length + s.length ≤ cap
  · have hst := run_storeCells_cells (P := Try.prog) g l.length (Lib.strCells (bs s)) 0 w
      (by intro j hj; rw [Lib.strCells_length, hbz] at hj; rw [cell_blk hg]; simp; omega)
      (by
        intro j hj
        rw [Lib.strCells_length, hbz] at hj
        simp only [World.frozen?, hg]
        simp
        omega)
      (Lib.strCells_oneCell (bs s))
    simp only [Nat.add_zero] at hst
    obtain ⟨nxt, n1, n2, n3, n4⟩ := setCells_blk g _ fz (Lib.strCells (bs s)) l.length cur w hg (by rw [Lib.strCells_length, hbz]; omega)
    have hf := Lib.run_firstCells_string (P := Try.prog) w 1 (bs s)
    rw [hbz] at hf
    refine ⟨g, cap, w.setCells g l.length (Lib.strCells (bs s)), ?_, ⟨nxt, fz, n1, ?_, by omega, by simpa using hroom, hcm, ?_⟩, ?_, Or.inl rfl⟩
    · simp [Builtin.append_, run_underlying Try.underlying75, run_underlying Try.underlying9, sizeOf, typeInfo, hi, hz1, Builtin.lenOf, hbz, hroom, hf, Addr.add_lit, hst]
    · simp; omega
    · rw [List.length_append, List.take_add, n3, htake, List.map_append]
      have : (nxt.toList.drop l.length).take s.length = Lib.strCells (bs s) := by rw [← n4, Lib.strCells_length, hbz]
      rw [this, strCells_bs]
    · exact Step.setCells (S := (· = g)) rfl _ _ (Step.refl _ _)
  · have hr := Lib.run_append_grow_string (P := Try.prog) w 75 9 ty 5 i (.int .u8 0) Try.underlying75 Try.underlying9 hi hz0 ⟨g, 0, none⟩ l.length cap (l.map u8v) (by simp [hz1])
      (by
        intro j v hj
        have hj' : j < l.length := by have := (List.getElem?_eq_some_iff.1 hj).1; simpa using this
        rw [Addr.add_lit, Nat.zero_add, h.cell hj']
        simp [List.getElem?_eq_getElem hj'] at hj
        rw [← hj]; rfl)
      (bs s) (by rw [hbz]; omega) (by rw [hbz]; omega) (by rw [hbz, hz2]; exact growslice_fits (by omega) (by omega))
    rw [hbz] at hr
    refine ⟨_, _, _, hr, Row.of_owns (base := 0) (n := l.length + s.length) ⟨by simp, Or.inr ⟨w.heap.size, _, _, rfl, Nat.zero_le _, heap_alloc_new w.drew _, grownCap_ge _ _ _ _, grownCap_le_maxLen _ _ _ _ (by unfold maxLen; omega), ?_, ?_⟩⟩, ?_, Or.inr (Nat.le_refl _)⟩
    · have hge := grownCap_ge w (l.length + s.length) cap 5
      have hzc : (Value.int IntKind.u8 0).cells.size = 1 := rfl
      simp only [Array.size_append, List.size_toArray, size_zeroCells, hzc, List.length_map, Lib.strCells_length, hbz]
      omega
    · simp only [Array.toList_append, Nat.mul_one, List.map_append, strCells_bs]
      rw [List.take_append_of_le_length (by simp)]
      exact List.take_of_length_le (by simp)
    · exact (Step.refl _ _).drew.alloc _

/-- []byte(s): a new row. -/
theorem conv_row (w : World) (s : List UInt8) (hs : s.length ≤ 140737488355328) :
    ∃ C W1, (convert 9 75 (.string (bs s))).run Try.prog w = .ok (.slice (some ⟨w.heap.size, 0, none⟩) s.length C) W1 ∧ Row W1 w.heap.size C s ∧ Step (fun _ => False) w W1 ∧ W1.heap.size = w.heap.size + 1 := by
  refine ⟨_, _, ?_, Row.of_string w s hs, (Step.refl _ _).drew.alloc _, by simp⟩
  rw [run_bytes_of_string w _ _ 5 (bs s) Try.underlying9 Try.underlying75 Try.underlying5]
  congr 2
end Go.Proofs.Yticmkepocacmhaa
