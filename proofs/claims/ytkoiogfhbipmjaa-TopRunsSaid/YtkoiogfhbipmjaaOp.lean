/-
  OPERATIONS ONE BY ONE, over whole blocks: a box, a new variable, a load, a store, each leaves a world of which only what is asked is known.
-/
import Derived.Test.YtkoiogfhbipmjaaFl
namespace Go.Proofs.Ytkoiogfhbipmjaa
open Go Go.RowKit

/-- A block that may be written, of these cells. -/
def Blk (w : World) (g : Nat) (T : TypeId) (A : Array Value) : Prop := w.heap[g]? = some (.cells A T (0, 0))
section
variable {w w' : World} {g : Nat} {T : TypeId} {A : Array Value}
theorem Blk.lt (h : Blk w g T A) : g < w.heap.size := (Array.getElem?_eq_some_iff.1 h).1
theorem Blk.keep (h : Blk w g T A) (hb : Below w.heap.size w w') : Blk w' g T A := (hb.block g h.lt).trans h
theorem Blk.upd {k : Nat} (h : Blk w g T A) (hu : Upd k w w') (hk : g ≠ k) : Blk w' g T A := hu.keep h hk
theorem Blk.drew (h : Blk w g T A) : Blk w.drew g T A := h
theorem Blk.undrew (h : Blk w g T A) : Blk w.drew g T A := h
theorem Blk.new (w : World) (T : TypeId) (A : Array Value) : Blk (w.alloc (.cells A T)) w.heap.size T A := block_new _ _
theorem Blk.new_at (w : World) (T : TypeId) (A : Array Value) {g : Nat} (hg : g = w.heap.size) : Blk (w.alloc (.cells A T)) g T A := by subst hg; exact block_new _ _
theorem Blk.alloc (h : Blk w g T A) (o : Obj) : Blk (w.alloc o) g T A := h.keep ((Below.refl _ _).alloc (Nat.le_refl _) o)
theorem Blk.cell (h : Blk w g T A) (i : Nat) {v : Value} (hv : A[i]? = some v) : w.cell? ⟨g, i, none⟩ = some v := (cell_block h i).trans hv
theorem Blk.free (h : Blk w g T A) (i : Nat) : w.frozen? ⟨g, i, none⟩ = false := free_block h i
theorem Blk.eq {A' : Array Value} (h : Blk w g T A) (e : A = A') : Blk w g T A' := e ▸ h
/-- n cells from o on are these. -/
theorem Blk.part (h : Blk w g T A) (o : Nat) (B : Array Value) (hA : ∀ j, j < B.size → A[o + j]? = B[j]?) : w.rangeAt g o B.toList := fun j v hv => by
  have hj : j < B.size := by
    have := (List.getElem?_eq_some_iff.1 hv).1
    simpa using this
  rw [cell_block h, hA j hj]
  simpa using hv
theorem Blk.ne_of_le {k : Nat} (h : Blk w g T A) (hn : w.heap.size ≤ k) : g ≠ k := by have := h.lt; omega
end
theorem upd_below {g : Nat} {w0 w w' : World} (h : Below w0.heap.size w0 w) (hu : Upd g w w') (hg : w0.heap.size ≤ g) : Below w0.heap.size w0 w' := h.trans (hu.below h.size hg)
theorem below_tr {w0 w w' : World} (h : Below w0.heap.size w0 w) (hb : Below w.heap.size w w') : Below w0.heap.size w0 w' := h.trans (hb.mono h.size)

section
variable {P : Program} {ops : Array Oper} {rest : List Oper} {op : Oper} {a : Act} {w : World} {Q : Exit → Act → World → Prop}
/-- At the operation of this slot (only a look). -/
theorem at_slot (s : Nat) {o : Op} {t : TypeId} {p : String} {af : Array Edge} {g : Option (Nat × Bool)} (h : wpList P ops Q (⟨some s, o, t, p, af, g⟩ :: rest) a w) : wpList P ops Q (⟨some s, o, t, p, af, g⟩ :: rest) a w := h
theorem at_store (x : Nat) {y : Operand} {ty t : TypeId} {p : String} {af : Array Edge} {g : Option (Nat × Bool)} (h : wpList P ops Q (⟨none, .store ty (.tmp x) y, t, p, af, g⟩ :: rest) a w) : wpList P ops Q (⟨none, .store ty (.tmp x) y, t, p, af, g⟩ :: rest) a w := h

theorem wl_ok {v : Value} {w' : World} (hw : Region.wanted op (yielded ops a.tmps) = true) (hr : (execOp a.eval op).run P w = .ok (.value v) w') (h : wpList P ops Q rest (a.put op.dst v) w') : wpList P ops Q (op :: rest) a w :=
  wpList_step fun K hK => by
    rw [if_pos hw]
    unfold Oper.wp
    rw [hr]
    exact hK _ _ h
theorem wl_skip {w' : World} (hw : Region.wanted op (yielded ops a.tmps) = true) (hr : (execOp a.eval op).run P w = .ok .skip w') (h : wpList P ops Q rest (a.put op.dst undef) w') : wpList P ops Q (op :: rest) a w :=
  wpList_step fun K hK => by
    rw [if_pos hw]
    unfold Oper.wp
    rw [hr]
    exact hK _ _ h
/-- A value laid into a new block. -/
theorem wl_box {ty : TypeId} {x : Operand} {A : Array Value} (ho : op.op = .box ty x) (hw : Region.wanted op (yielded ops a.tmps) = true) (hx : (a.eval x).cells = A)
    (h : ∀ (W : World) (g : Nat), Blk W g ty A → Below w.heap.size w W → w.heap.size ≤ g → wpList P ops Q rest (a.put op.dst (.pointer (some ⟨g, 0, none⟩))) W) : wpList P ops Q (op :: rest) a w := by
  refine wl_ok (v := .pointer (some ⟨w.heap.size, 0, none⟩)) (w' := w.alloc (.cells A ty)) hw ?_ (h _ _ (Blk.new _ _ _) ((Below.refl _ _).alloc (Nat.le_refl _) _) (Nat.le_refl _))
  unfold execOp
  simp only [ho, Instr.box, newVar, newRow, Sem.run_bind, run_newObj_alloc, Result.andThen_ok, Sem.run_pure, hx]
/-- A new variable. -/
theorem wl_alloc {ty : TypeId} {z : Value} {A : Array Value} (ho : op.op = .alloc ty) (hw : Region.wanted op (yielded ops a.tmps) = true) (hz : (P.info? ty).map (·.zero) = some (some z)) (hA : z.cells = A)
    (h : ∀ (W : World) (g : Nat), Blk W g ty A → Below w.heap.size w W → w.heap.size ≤ g → wpList P ops Q rest (a.put op.dst (.pointer (some ⟨g, 0, none⟩))) W) : wpList P ops Q (op :: rest) a w := by
  refine wl_ok (v := .pointer (some ⟨w.heap.size, 0, none⟩)) (w' := w.alloc (.cells A ty)) hw ?_ (h _ _ (Blk.new _ _ _) ((Below.refl _ _).alloc (Nat.le_refl _) _) (Nat.le_refl _))
  have hzr : (zeroValue ty).run P w = .ok z w := by
    cases hq : P.info? ty with
    | none => simp [hq] at hz
    | some i =>
      have hi : i.zero = some z := by simpa [hq] using hz
      simp [zeroValue, typeInfo, Sem.run_bind, hq, hi]
  unfold execOp
  simp only [ho, Instr.alloc, newVar, newRow, Sem.run_bind, hzr, run_newObj_alloc, Result.andThen_ok, Sem.run_pure, hA]
/-- A whole struct (or array), or a part of one, is read. -/
theorem wl_ld {ty : TypeId} {x : Operand} {g o : Nat} {T : TypeId} {A : Array Value} {d : TypeDesc} (B : Array Value) (ho : op.op = .load ty x) (hw : Region.wanted op (yielded ops a.tmps) = true) (hx : a.eval x = .pointer (some ⟨g, o, none⟩)) (hb : Blk w g T A)
    (hu : P.underlying ty = some d) (hd : d.isRow = true) (hi : (P.info? ty).map (·.size) = some B.size) (hA : ∀ j, j < B.size → A[o + j]? = B[j]?)
    (h : wpList P ops Q rest (a.put op.dst (.agg B)) w) : wpList P ops Q (op :: rest) a w := by
  refine wl_ok hw ?_ h
  have := run_loadAt_mid (P := P) w g o ty B.toList d (hb.part o B hA) hu hd (by simpa using hi)
  unfold execOp
  simp only [ho, hx, Sem.run_bind, this, Result.andThen_ok, Sem.run_pure, Array.toArray_toList]
theorem wl_ld0 {ty : TypeId} {x : Operand} {g : Nat} {T : TypeId} {A : Array Value} {d : TypeDesc} (ho : op.op = .load ty x) (hw : Region.wanted op (yielded ops a.tmps) = true) (hx : a.eval x = .pointer (some ⟨g, 0, none⟩)) (hb : Blk w g T A)
    (hu : P.underlying ty = some d) (hd : d.isRow = true) (hi : (P.info? ty).map (·.size) = some A.size)
    (h : wpList P ops Q rest (a.put op.dst (.agg A)) w) : wpList P ops Q (op :: rest) a w :=
  wl_ld A ho hw hx hb hu hd hi (fun j _ => by rw [Nat.zero_add]) h
/-- One cell is read. -/
theorem wl_ld1 {ty : TypeId} {x : Operand} {g o : Nat} {T : TypeId} {A : Array Value} {d : TypeDesc} {v : Value} (ho : op.op = .load ty x) (hw : Region.wanted op (yielded ops a.tmps) = true) (hx : a.eval x = .pointer (some ⟨g, o, none⟩)) (hb : Blk w g T A)
    (hu : P.underlying ty = some d) (hd : d.isRow = false) (hv : A[o]? = some v)
    (h : wpList P ops Q rest (a.put op.dst v) w) : wpList P ops Q (op :: rest) a w := by
  refine wl_ok hw ?_ h
  have hc := hb.cell o hv
  have hagg : (isAgg ty).run P w = .ok false w := by
    unfold isAgg
    rw [Sem.run_bind, run_underlying hu w]
    cases d <;> simp_all
  unfold execOp
  simp [ho, hx, Instr.loadAt, Instr.sureAddr, Sem.run_bind, loadVar, hagg, hc]
/-- A value of several cells is written into a block, from o on. -/
theorem run_storeVar_any (w : World) (b o : Nat) (ty : TypeId) (v : Value) (ht : w.there b o v.cells.size) (hi : (P.info? ty).map (·.size) = some v.cells.size) (h1 : v.cells.all (·.oneCell') = true) :
    (storeVar ty ⟨b, o, none⟩ v).run P w = .ok () (w.setCells b o v.cells.toList) := by
  have := run_storeCells_cells (P := P) b o v.cells.toList 0 w (fun j hj => by simpa using (ht j (by simpa using hj)).1) (fun j hj => by simpa using (ht j (by simpa using hj)).2)
    (fun v' hv => (Array.all_eq_true_iff_forall_mem.1 h1) v' (by simpa using hv))
  cases hq : P.info? ty with
  | none => simp [hq] at hi
  | some i =>
    have hs : v.cells.size = i.size := by simp [hq] at hi; omega
    simp only [Nat.add_zero] at this
    simp [storeVar, sizeOf, typeInfo, hq, hs, this]
theorem setCells_part {w : World} {g : Nat} {t : TypeId} {fr : Nat × Nat} : ∀ (vs : List Value) (o : Nat) (w : World) (A : Array Value), w.heap[g]? = some (.cells A t fr) → o + vs.length ≤ A.size →
    ∃ A' : Array Value, (w.setCells g o vs).heap[g]? = some (.cells A' t fr) ∧ A'.size = A.size ∧ (∀ j, j < o ∨ o + vs.length ≤ j → A'[j]? = A[j]?) ∧ (∀ j, j < vs.length → A'[o + j]? = vs[j]?)
  | [], o, w, A, h, hs => ⟨A, h, rfl, fun _ _ => rfl, fun j hj => by simp at hj⟩
  | v :: r, o, w, A, h, hs => by
    have h1 := set_block (i := o) h v
    obtain ⟨A', a1, a2, a3, a4⟩ := setCells_part (w := w) r (o + 1) (w.setCell ⟨g, o, none⟩ v) (A.set! o v) h1 (by simp at hs ⊢; omega)
    refine ⟨A', a1, by rw [a2]; simp, fun j hj => ?_, fun j hj => ?_⟩
    · have hj' : j < o ∨ o + (r.length + 1) ≤ j := by simpa using hj
      rw [a3 j (by omega)]
      simp only [Array.set!_eq_setIfInBounds]
      rw [Array.getElem?_setIfInBounds_ne (by omega)]
    · match j with
      | 0 =>
        have := a3 o (by omega)
        rw [Nat.add_zero, this]
        simp only [Array.set!_eq_setIfInBounds]
        rw [Array.getElem?_setIfInBounds_self]
        rw [if_pos (by simp at hs; omega)]
        rfl
      | k + 1 =>
        have := a4 k (by simpa using hj)
        rw [show o + (k + 1) = o + 1 + k by omega, this]
        rfl
theorem Blk.there {w : World} {g : Nat} {T : TypeId} {A : Array Value} (h : Blk w g T A) (o n : Nat) (hn : o + n ≤ A.size) : w.there g o n := fun j hj => by
  refine ⟨?_, h.free _⟩
  rw [cell_block h, Array.getElem?_eq_getElem (by omega)]
  rfl
theorem wl_st {ty : TypeId} {x y : Operand} {g o : Nat} {T : TypeId} {A : Array Value} {v : Value} (A' : Array Value) (ho : op.op = .store ty x y) (hw : Region.wanted op (yielded ops a.tmps) = true) (hx : a.eval x = .pointer (some ⟨g, o, none⟩)) (hy : a.eval y = v) (hb : Blk w g T A)
    (hi : (P.info? ty).map (·.size) = some v.cells.size) (h1 : v.cells.all (·.oneCell') = true) (hn : o + v.cells.size ≤ A.size)
    (hA : ∀ B : Array Value, B.size = A.size → (∀ j, j < o ∨ o + v.cells.size ≤ j → B[j]? = A[j]?) → (∀ j, j < v.cells.size → B[o + j]? = v.cells[j]?) → B = A')
    (h : ∀ W : World, Blk W g T A' → Upd g w W → wpList P ops Q rest (a.put op.dst undef) W) : wpList P ops Q (op :: rest) a w := by
  obtain ⟨B, b1, b2, b3, b4⟩ := setCells_part (w := w) v.cells.toList o w A hb (by simpa using hn)
  obtain rfl := hA B b2 (fun j hj => b3 j (by simpa using hj)) (fun j hj => by rw [b4 j (by simpa using hj)]; simp)
  refine wl_skip hw ?_ (h (w.setCells g o v.cells.toList) b1 (setCells_upd g _ o w))
  have := run_storeVar_any (P := P) w g o ty v (hb.there o _ hn) hi h1
  unfold execOp
  simp only [ho, hx, hy, Instr.storeAt, Instr.sureAddr, Sem.run_bind, Sem.run_pure, Result.andThen_ok, this]
/-- A whole block is written over. -/
theorem wl_st0 {ty : TypeId} {x y : Operand} {g : Nat} {T : TypeId} {A A' : Array Value} (ho : op.op = .store ty x y) (hw : Region.wanted op (yielded ops a.tmps) = true) (hx : a.eval x = .pointer (some ⟨g, 0, none⟩)) (hy : a.eval y = .agg A') (hb : Blk w g T A)
    (hs : A.size = A'.size) (hi : (P.info? ty).map (·.size) = some A'.size) (h1 : A'.all (·.oneCell') = true)
    (h : ∀ W : World, Blk W g T A' → Upd g w W → wpList P ops Q rest (a.put op.dst undef) W) : wpList P ops Q (op :: rest) a w := by
  refine wl_st A' ho hw hx hy hb hi h1 (by show 0 + A'.size ≤ _; omega) (fun B h0 _ h2 => ?_) h
  refine Array.ext_getElem? fun j => ?_
  rcases Nat.lt_or_ge j A'.size with hj | hj
  · have := h2 j hj
    rw [Nat.zero_add] at this
    exact this
  · rw [Array.getElem?_eq_none (by omega), Array.getElem?_eq_none hj]
/-- One cell is written. -/
theorem wl_st1 {ty : TypeId} {x y : Operand} {g o : Nat} {T : TypeId} {A : Array Value} {v : Value} (ho : op.op = .store ty x y) (hw : Region.wanted op (yielded ops a.tmps) = true) (hx : a.eval x = .pointer (some ⟨g, o, none⟩)) (hy : a.eval y = v) (hb : Blk w g T A)
    (hi : (P.info? ty).map (·.size) = some 1) (hc : v.cells = #[v]) (h1 : v.oneCell' = true) (hn : o < A.size)
    (h : ∀ W : World, Blk W g T (A.setIfInBounds o v) → Upd g w W → wpList P ops Q rest (a.put op.dst undef) W) : wpList P ops Q (op :: rest) a w := by
  refine wl_st (A.setIfInBounds o v) ho hw hx hy hb (by rw [hc]; exact hi) (by rw [hc]; simpa using h1) (by rw [hc]; show o + 1 ≤ _; omega) (fun B h0 h1 h2 => ?_) h
  rw [hc] at h1 h2
  refine Array.ext_getElem? fun j => ?_
  by_cases hj : j = o
  · subst hj
    have := h2 0 (by simp)
    rw [Nat.add_zero] at this
    rw [this, Array.getElem?_setIfInBounds_self, if_pos hn]
    rfl
  · rw [h1 j (by simp; omega), Array.getElem?_setIfInBounds_ne (by omega)]
/-- A struct (or array) is built. -/
theorem wl_build {t : TypeId} {parts : Array (Nat × Operand)} {v : Value} (ho : op.op = .build t parts) (hw : Region.wanted op (yielded ops a.tmps) = true) {vs : Array (Nat × Value)} (hr : (Instr.build t vs).run P w = .ok v w) (hx : parts.toList.map (fun (i, x) => (i, a.eval x)) = vs.toList)
    (h : wpList P ops Q rest (a.put op.dst v) w) : wpList P ops Q (op :: rest) a w := by
  refine wl_ok hw ?_ h
  have hx' : parts.map (fun (i, x) => (i, a.eval x)) = vs := by
    refine Array.ext' ?_
    rw [Array.toList_map]
    exact hx
  rw [← hx'] at hr
  unfold execOp
  simp only [ho, Sem.run_bind, hr, Result.andThen_ok, Sem.run_pure]
/-- A slice is built. -/
theorem wl_bslice {t e : TypeId} {n : Nat} {parts : Array (Nat × Operand)} {A : Array Value} (ho : op.op = .buildSlice t n parts) (hw : Region.wanted op (yielded ops a.tmps) = true) {vs : Array (Nat × Value)} (hr : (Instr.buildSlice t n vs).run P w = .ok (.slice (some ⟨w.heap.size, 0, none⟩) n n) (w.alloc (.cells A e))) (hx : parts.toList.map (fun (i, x) => (i, a.eval x)) = vs.toList)
    (h : ∀ (W : World) (g : Nat), Blk W g e A → Below w.heap.size w W → w.heap.size ≤ g → wpList P ops Q rest (a.put op.dst (.slice (some ⟨g, 0, none⟩) n n)) W) : wpList P ops Q (op :: rest) a w := by
  have hx' : parts.map (fun (i, x) => (i, a.eval x)) = vs := by
    refine Array.ext' ?_
    rw [Array.toList_map]
    exact hx
  rw [← hx'] at hr
  refine wl_ok (v := .slice (some ⟨w.heap.size, 0, none⟩) n n) (w' := w.alloc (.cells A e)) hw ?_ (h _ _ (Blk.new _ _ _) ((Below.refl _ _).alloc (Nat.le_refl _) _) (Nat.le_refl _))
  unfold execOp
  simp only [ho, Sem.run_bind, hr, Result.andThen_ok, Sem.run_pure]
/-- A struct (or array) is read out of a row of them. -/
theorem wl_ldr {ty : TypeId} {x : Operand} {g o : Nat} {d : TypeDesc} {B : Array Value} (ho : op.op = .load ty x) (hw : Region.wanted op (yielded ops a.tmps) = true) (hx : a.eval x = .pointer (some ⟨g, o, none⟩)) (hb : w.rangeAt g o B.toList)
    (hu : P.underlying ty = some d) (hd : d.isRow = true) (hi : (P.info? ty).map (·.size) = some B.size)
    (h : wpList P ops Q rest (a.put op.dst (.agg B)) w) : wpList P ops Q (op :: rest) a w := by
  refine wl_ok hw ?_ h
  have := run_loadAt_mid (P := P) w g o ty B.toList d hb hu hd (by simpa using hi)
  unfold execOp
  simp only [ho, hx, Sem.run_bind, this, Result.andThen_ok, Sem.run_pure, Array.toArray_toList]
/-- Two values are held against one another (structs, strings ..). -/
theorem wl_bin {b : BinOp} {t u : TypeId} {x y : Operand} {v : Value} (ho : op.op = .binOp b t x y u) (hw : Region.wanted op (yielded ops a.tmps) = true) (hg : (eqGuard b t x y (a.eval x) (a.eval y)).run P w = .ok () w) (hr : (binOp b t (a.eval x) (a.eval y)).run P w = .ok v w)
    (h : wpList P ops Q rest (a.put op.dst v) w) : wpList P ops Q (op :: rest) a w := by
  refine wl_ok hw ?_ h
  unfold execOp
  simp only [ho, Sem.run_bind, hg, hr, Result.andThen_ok, Sem.run_pure]
/-- A function of the program is called. -/
theorem wl_call {f : FuncId} {fn : Func} {c : Code} {xs : Array Operand} {ts : Array TypeId} {vals : Array Value} {v : Value} {R : World → Prop} (ho : op.op = .call { callee := .value (.func f), args := xs, argTypes := ts }) (hw : Region.wanted op (yielded ops a.tmps) = true)
    (hf : P.funcs[f]? = some fn) (hname : (fn.name == "runtime.NumGoroutine") = false) (hb : fn.body = some c)
    (hc : Calls P f vals w fun e w' => e = .returned v ∧ R w') (hx : xs.toList.map a.eval = vals.toList) (h : ∀ w', R w' → wpList P ops Q rest (a.put op.dst v) w') : wpList P ops Q (op :: rest) a w :=
  wpList_step fun K hK => by
    rw [if_pos hw]
    have h1 : fn.name ≠ "runtime.NumGoroutine" := by simpa using hname
    have hr : (execOp a.eval op).run P w = .ok (.enter f vals) w := by
      unfold execOp
      have hx' : xs.map a.eval = vals := by
        refine Array.ext' ?_
        rw [Array.toList_map]
        exact hx
      simp [ho, resolve, Act.eval, Deferred.ofValue, invoke, callFunc, hf, h1, hb, Sem.run_bind, ← hx']
    unfold Oper.wp
    rw [hr, Oper.upon_enter]
    refine hc.mono ?_
    rintro e w' ⟨rfl, hR⟩
    exact hK _ _ (h w' hR)
end
section
variable {P : Program}
theorem run_var_blk {w : World} {g : Nat} {T ty : TypeId} {A : Array Value} {d : TypeDesc} (hb : Blk w g T A) (hu : P.underlying ty = some d) (hd : d.isRow = true) (hi : (P.info? ty).map (·.size) = some A.size) : (loadVar ty ⟨g, 0, none⟩).run P w = .ok (.agg A) w := by
  have := run_loadVar_mid (P := P) w g 0 ty A.toList d (hb.part 0 A (fun j _ => by rw [Nat.zero_add])) hu hd (by simpa using hi)
  simpa using this
/-- The results: a struct in memory. -/
theorem results_c {fn : Func} {p : Tmp} {ty : TypeId} (h : fn.results = #[.cell p ty]) (tmps : Array Value) {w : World} {g : Nat} {T : TypeId} {A : Array Value} {d : TypeDesc} (hp : tmps.getD p undef = .pointer (some ⟨g, 0, none⟩)) (hb : Blk w g T A) (hu : P.underlying ty = some d) (hd : d.isRow = true) (hi : (P.info? ty).map (·.size) = some A.size) :
    (results fn tmps).run P w = .ok (.agg A) w := by
  have hp' : tmps[p]?.getD undef = .pointer (some ⟨g, 0, none⟩) := by simpa using hp
  simp [results, h, hp', asAddr, run_var_blk hb hu hd hi]
/-- The results: a struct in memory, and a number, say. -/
theorem results_ct {fn : Func} {p q : Tmp} {ty : TypeId} (h : fn.results = #[.cell p ty, .tmp q]) (tmps : Array Value) {w : World} {g : Nat} {T : TypeId} {A : Array Value} {d : TypeDesc} {v : Value} (hp : tmps.getD p undef = .pointer (some ⟨g, 0, none⟩)) (hq : tmps.getD q undef = v) (hb : Blk w g T A) (hu : P.underlying ty = some d) (hd : d.isRow = true) (hi : (P.info? ty).map (·.size) = some A.size) :
    (results fn tmps).run P w = .ok (.tuple #[.agg A, v]) w := by
  have hp' : tmps[p]?.getD undef = .pointer (some ⟨g, 0, none⟩) := by simpa using hp
  have hq' : tmps[q]?.getD undef = v := by simpa using hq
  simp [results, h, hp', hq', asAddr, run_var_blk hb hu hd hi]
end
end Go.Proofs.Ytkoiogfhbipmjaa
