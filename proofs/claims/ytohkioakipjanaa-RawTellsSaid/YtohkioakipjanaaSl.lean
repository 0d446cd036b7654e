/-
  AN OPERATION MORE: a slice of a slice.
-/
import Derived.Test.YtohkioakipjanaaDr
namespace Go.Proofs.Ytohkioakipjanaa
open Go Go.RowKit

section
variable {P : Program} {ops : Array Oper} {rest : List Oper} {op : Oper} {a : Act} {w : World} {Q : Exit → Act → World → Prop}
/-- A slice of a slice. -/
theorem wl_slice {t : TypeId} {x : Operand} {lo hi : Option Operand} {v r : Value} {lo' hi' : Option Value} (ho : op.op = .slice t x lo hi none) (hw : Region.wanted op (yielded ops a.tmps) = true) (hr : (Instr.sliceAt t v lo' hi' none).run P w = .ok r w) (hx : a.eval x = v) (hl : lo.map a.eval = lo') (hh : hi.map a.eval = hi')
    (h : wpList P ops Q rest (a.put op.dst r) w) : wpList P ops Q (op :: rest) a w := by
  refine wl_ok hw ?_ h
  unfold execOp
  simp only [ho, hx, hl, hh, Option.map_none, Sem.run_bind, hr, Result.andThen_ok, Sem.run_pure]
end
section
variable {P : Program} {ops : Array Oper} {Q : Exit → Act → World → Prop} {S : World → Prop} {op : Oper} {a : Act}
/-- One cell is read, of whatever block. -/
theorem yi_c {ty : TypeId} {x : Operand} {g o : Nat} {d : TypeDesc} {v : Value} (ho : op.op = .load ty x) (hw : Region.wanted op (yielded ops a.tmps) = true) (hx : a.eval x = .pointer (some ⟨g, o, none⟩)) (hb : ∀ w, S w → w.cell? ⟨g, o, none⟩ = some v)
    (hu : P.underlying ty = some d) (hd : d.isRow = false) : YieldsIf P ops S op v a :=
  .inl ⟨hw, fun w hS => by
    have hc := hb w hS
    have hagg : (isAgg ty).run P w = .ok false w := by
      unfold isAgg
      rw [Sem.run_bind, run_underlying hu w]
      cases d <;> simp_all
    unfold execOp
    simp [ho, hx, Instr.loadAt, Instr.sureAddr, Sem.run_bind, loadVar, hagg, hc]⟩
end
section
variable {P : Program} {ops : Array Oper} {K : Act → World → Prop} {Q : Exit → Act → World → Prop} {op : Oper} {a : Act} {w : World}
/-- In a drawn region: a slice is built. -/
theorem wq_bslice {t e : TypeId} {n : Nat} {parts : Array (Nat × Operand)} {A : Array Value} (ho : op.op = .buildSlice t n parts) (hw : Region.wanted op (yielded ops a.tmps) = true) {vs : Array (Nat × Value)} (hr : (Instr.buildSlice t n vs).run P w = .ok (.slice (some ⟨w.heap.size, 0, none⟩) n n) (w.alloc (.cells A e))) (hx : parts.toList.map (fun (i, x) => (i, a.eval x)) = vs.toList)
    (h : K (a.put op.dst (.slice (some ⟨w.heap.size, 0, none⟩) n n)) (w.alloc (.cells A e))) : if Region.wanted op (yielded ops a.tmps) then op.wp P a w K Q else K (a.put op.dst undef) w := by
  have hx' : parts.map (fun (i, x) => (i, a.eval x)) = vs := by
    refine Array.ext' ?_
    rw [Array.toList_map]
    exact hx
  rw [if_pos hw]
  unfold Oper.wp execOp
  simp only [ho, Sem.run_bind, hx', hr, Result.andThen_ok, Sem.run_pure]
  exact h
/-- A struct is read out of a row of them. -/
theorem wq_ldr {ty : TypeId} {x : Operand} {g o : Nat} {d : TypeDesc} {B : Array Value} (ho : op.op = .load ty x) (hw : Region.wanted op (yielded ops a.tmps) = true) (hx : a.eval x = .pointer (some ⟨g, o, none⟩)) (hb : w.rangeAt g o B.toList)
    (hu : P.underlying ty = some d) (hd : d.isRow = true) (hi : (P.info? ty).map (·.size) = some B.size)
    (h : K (a.put op.dst (.agg B)) w) : if Region.wanted op (yielded ops a.tmps) then op.wp P a w K Q else K (a.put op.dst undef) w := by
  have := run_loadAt_mid (P := P) w g o ty B.toList d hb hu hd (by simpa using hi)
  rw [if_pos hw]
  unfold Oper.wp execOp
  simp only [ho, hx, Sem.run_bind, this, Result.andThen_ok, Sem.run_pure, Array.toArray_toList]
  exact h
end
/-- A slice that the region builds: what holds of it (bs: it is built), beside a variable (bk: it is made). -/
structure AJ (w0 W : World) (T : TypeId) (A : Array Value) (n : Nat) (bs bk : Bool) (x : Value) (gs g : Nat) : Prop where
  var : bs = true → x = .slice (some ⟨gs, 0, none⟩) n n ∧ Blk W gs T A ∧ (bk = true → gs ≠ g)
section
variable {B g gs n : Nat} {w0 W W' : World} {T T' : TypeId} {A Z V : Array Value} {bs bk bm : Bool} {x xk : Value}
theorem AJ.start (w0 W : World) (T : TypeId) (A : Array Value) (n : Nat) {bk : Bool} {x : Value} {g : Nat} : AJ w0 W T A n false bk x 0 g := ⟨nofun⟩
theorem AJ.grow (h : AJ w0 W T A n bs bk x gs g) (hb : Below W.heap.size W W') : AJ w0 W' T A n bs bk x gs g :=
  ⟨fun k => by obtain ⟨a, b, c⟩ := h.var k; exact ⟨a, b.keep hb, c⟩⟩
theorem AJ.alloc (h : AJ w0 W T A n bs false x gs g) (o : Obj) : AJ w0 (W.alloc o) T A n bs true x gs W.heap.size :=
  ⟨fun k => by
    obtain ⟨a, b, _⟩ := h.var k
    exact ⟨a, b.alloc o, fun _ => by have := b.lt; omega⟩⟩
theorem AJ.store (h : AJ w0 W T A n bs true x gs g) (vs : List Value) : AJ w0 (W.setCells g 0 vs) T A n bs true x gs g :=
  ⟨fun k => by
    obtain ⟨a, b, c⟩ := h.var k
    exact ⟨a, b.upd (setCells_upd g vs 0 W) (c rfl), c⟩⟩
theorem AJ.make (hj : FJ B w0 W T' Z V bk bm xk g) : AJ w0 (W.alloc (.cells A T)) T A n true bk (.slice (some ⟨W.heap.size, 0, none⟩) n n) W.heap.size g :=
  ⟨fun _ => ⟨rfl, Blk.new _ _ _, fun hk => by
    obtain ⟨_, b⟩ := hj.var hk
    have := (Array.getElem?_eq_some_iff.1 b).1
    omega⟩⟩
end
end Go.Proofs.Ytohkioakipjanaa
