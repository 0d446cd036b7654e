/-
  A DRAWN REGION WHOSE OPERATIONS READ AND CALL ('a == f(x) && g(y) == z && ..'), one operation after another, over whole blocks.
-/
import Derived.Test.YtohkioakipjanaaOp
namespace Go.Proofs.Ytohkioakipjanaa
open Go Go.RowKit

section
variable {P : Program} {ops : Array Oper} {Q : Exit → Act → World → Prop} {md : Region.Mode} {S : World → Prop} {op : Oper} {a : Act}
theorem yi_ok {v : Value} (hw : Region.wanted op (yielded ops a.tmps) = true) (hr : ∀ w, (execOp a.eval op).run P w = .ok (.value v) w) : YieldsIf P ops S op v a := .inl ⟨hw, fun w _ => hr w⟩
theorem yi_no (hw : Region.wanted op (yielded ops a.tmps) = false) : YieldsIf P ops S op undef a := .inr ⟨hw, rfl⟩
theorem yi_mv {x : Operand} {v : Value} (ho : op.op = .move x ∨ op.op = .assign x) (hw : Region.wanted op (yielded ops a.tmps) = true) (hx : a.eval x = v) : YieldsIf P ops S op v a := by
  refine yi_ok hw fun w => ?_
  unfold execOp
  rcases ho with ho | ho <;> (simp only [ho, hx]; rfl)
theorem yi_pick1 {c x y : Operand} {v : Value} (ho : op.op = .pick c x y) (hw : Region.wanted op (yielded ops a.tmps) = true) (hc : a.eval c = .bool true) (hx : a.eval x = v) : YieldsIf P ops S op v a := by
  refine yi_ok hw fun w => ?_
  unfold execOp
  simp only [ho, hc, hx]
  rfl
theorem yi_pick0 {c x y : Operand} {v : Value} (ho : op.op = .pick c x y) (hw : Region.wanted op (yielded ops a.tmps) = true) (hc : a.eval c = .bool false) (hx : a.eval y = v) : YieldsIf P ops S op v a := by
  refine yi_ok hw fun w => ?_
  unfold execOp
  simp only [ho, hc, hx]
  rfl
theorem yi_not {x : Operand} {ty : TypeId} {b c : Bool} (ho : op.op = .unOp .not ty x) (hw : Region.wanted op (yielded ops a.tmps) = true) (hx : a.eval x = .bool b) (hc : (!b) = c) : YieldsIf P ops S op (.bool c) a := by
  subst hc
  refine yi_ok hw fun w => ?_
  unfold execOp
  simp only [ho, hx]
  rfl
/-- Two numbers held against one another. -/
theorem yi_eql {x y : Operand} {t u : TypeId} {k k' : IntKind} {m n : Int} (ho : op.op = .binOp .eql t x y u) (hw : Region.wanted op (yielded ops a.tmps) = true) (hx : a.eval x = .int k m) (hy : a.eval y = .int k n) (ht : P.underlying t = some (.int k')) {b : Bool} (hb : (m == n) = b) : YieldsIf P ops S op (.bool b) a := by
  subst hb
  refine yi_ok hw fun w => ?_
  unfold execOp
  simp only [ho, hx, hy]
  go_simp
theorem yi_ext {x : Operand} {i : Nat} {vs : Array Value} {v : Value} (ho : op.op = .extract x i) (hw : Region.wanted op (yielded ops a.tmps) = true) (hx : a.eval x = .tuple vs) (hv : vs[i]? = some v) : YieldsIf P ops S op v a := by
  refine yi_ok hw fun w => ?_
  unfold execOp
  simp only [ho, hx, Instr.extract]
  simp [hv]
theorem yi_ld {ty : TypeId} {x : Operand} {g o : Nat} {T : TypeId} {A : Array Value} {d : TypeDesc} (B : Array Value) (ho : op.op = .load ty x) (hw : Region.wanted op (yielded ops a.tmps) = true) (hx : a.eval x = .pointer (some ⟨g, o, none⟩)) (hb : ∀ w, S w → Blk w g T A)
    (hu : P.underlying ty = some d) (hd : d.isRow = true) (hi : (P.info? ty).map (·.size) = some B.size) (hA : ∀ j, j < B.size → A[o + j]? = B[j]?) : YieldsIf P ops S op (.agg B) a :=
  .inl ⟨hw, fun w hS => by
    have := run_loadAt_mid (P := P) w g o ty B.toList d ((hb w hS).part o B hA) hu hd (by simpa using hi)
    unfold execOp
    simp only [ho, hx, Sem.run_bind, this, Result.andThen_ok, Sem.run_pure, Array.toArray_toList]⟩
theorem yi_ld0 {ty : TypeId} {x : Operand} {g : Nat} {T : TypeId} {A : Array Value} {d : TypeDesc} (ho : op.op = .load ty x) (hw : Region.wanted op (yielded ops a.tmps) = true) (hx : a.eval x = .pointer (some ⟨g, 0, none⟩)) (hb : ∀ w, S w → Blk w g T A)
    (hu : P.underlying ty = some d) (hd : d.isRow = true) (hi : (P.info? ty).map (·.size) = some A.size) : YieldsIf P ops S op (.agg A) a :=
  yi_ld A ho hw hx hb hu hd hi (fun j _ => by rw [Nat.zero_add])
theorem yi_ld1 {ty : TypeId} {x : Operand} {g o : Nat} {T : TypeId} {A : Array Value} {d : TypeDesc} {v : Value} (ho : op.op = .load ty x) (hw : Region.wanted op (yielded ops a.tmps) = true) (hx : a.eval x = .pointer (some ⟨g, o, none⟩)) (hb : ∀ w, S w → Blk w g T A)
    (hu : P.underlying ty = some d) (hd : d.isRow = false) (hv : A[o]? = some v) : YieldsIf P ops S op v a :=
  .inl ⟨hw, fun w hS => by
    have hc := (hb w hS).cell o hv
    have hagg : (isAgg ty).run P w = .ok false w := by
      unfold isAgg
      rw [Sem.run_bind, run_underlying hu w]
      cases d <;> simp_all
    unfold execOp
    simp [ho, hx, Instr.loadAt, Instr.sureAddr, Sem.run_bind, loadVar, hagg, hc]⟩
/-- Out of a row of them. -/
theorem yi_ldr {ty : TypeId} {x : Operand} {g o : Nat} {d : TypeDesc} {B : Array Value} (ho : op.op = .load ty x) (hw : Region.wanted op (yielded ops a.tmps) = true) (hx : a.eval x = .pointer (some ⟨g, o, none⟩)) (hb : ∀ w, S w → w.rangeAt g o B.toList)
    (hu : P.underlying ty = some d) (hd : d.isRow = true) (hi : (P.info? ty).map (·.size) = some B.size) : YieldsIf P ops S op (.agg B) a :=
  .inl ⟨hw, fun w hS => by
    have := run_loadAt_mid (P := P) w g o ty B.toList d (hb w hS) hu hd (by simpa using hi)
    unfold execOp
    simp only [ho, hx, Sem.run_bind, this, Result.andThen_ok, Sem.run_pure, Array.toArray_toList]⟩
theorem yi_build {t : TypeId} {parts : Array (Nat × Operand)} {v : Value} (ho : op.op = .build t parts) (hw : Region.wanted op (yielded ops a.tmps) = true) {vs : Array (Nat × Value)} (hr : ∀ w, (Instr.build t vs).run P w = .ok v w) (hx : parts.toList.map (fun (i, x) => (i, a.eval x)) = vs.toList) : YieldsIf P ops S op v a := by
  refine yi_ok hw fun w => ?_
  have hx' : parts.map (fun (i, x) => (i, a.eval x)) = vs := by
    refine Array.ext' ?_
    rw [Array.toList_map]
    exact hx
  unfold execOp
  simp only [ho, Sem.run_bind, hx', hr, Result.andThen_ok, Sem.run_pure]
theorem yi_bin {b : BinOp} {t u : TypeId} {x y : Operand} {v : Value} (ho : op.op = .binOp b t x y u) (hw : Region.wanted op (yielded ops a.tmps) = true) (hg : ∀ w, (eqGuard b t x y (a.eval x) (a.eval y)).run P w = .ok () w) (hr : ∀ w, (binOp b t (a.eval x) (a.eval y)).run P w = .ok v w) : YieldsIf P ops S op v a := by
  refine yi_ok hw fun w => ?_
  unfold execOp
  simp only [ho, Sem.run_bind, hg, hr, Result.andThen_ok, Sem.run_pure]
theorem anyH_call {i fuel : Nat} {listed : Array Bool} {w : World} {f : FuncId} {fn : Func} {c : Code} {xs : Array Operand} {ts : Array TypeId} {vals : Array Value} {v : Value} {R : World → Prop} (hrd : Region.ready md ops listed = [i]) (hi : ops[i]? = some op)
    (ho : op.op = .call { callee := .value (.func f), args := xs, argTypes := ts }) (hw : Region.wanted op (yielded ops a.tmps) = true)
    (hf : P.funcs[f]? = some fn) (hname : (fn.name == "runtime.NumGoroutine") = false) (hb : fn.body = some c)
    (hc : Calls P f vals w fun e w' => e = .returned v ∧ R w') (hx : xs.toList.map a.eval = vals.toList) (hS : ∀ w', R w' → S w') (h : ∀ w', R w' → S w' → wpAnyH P md ops Q S fuel (listed.setIfInBounds i true) (a.put op.dst v) w') : wpAnyH P md ops Q S (fuel + 1) listed a w := by
  refine wpAnyH_ready hrd (by simp) (AllReadyH.cons hi (fun K' hK => ?_) AllReadyH.nil)
  rw [if_pos hw]
  have h1 : fn.name ≠ "runtime.NumGoroutine" := by simpa using hname
  have hr : (execOp a.eval op).run P w = .ok (.enter f vals) w := by
    unfold execOp
    have hx' : xs.map a.eval = vals := by
      refine Array.ext' ?_
      rw [Array.toList_map]
      exact hx
    simp [ho, resolve, Act.eval, Deferred.ofValue, invoke, callFunc, hf, h1, hb, Sem.run_bind, ← hx']
  unfold Oper.wp
  rw [hr, Oper.upon_enter]
  refine hc.mono ?_
  rintro e w' ⟨rfl, hR⟩
  exact hK.out _ _ (hS w' hR) (fun hS' => h w' hR hS')
end
end Go.Proofs.Ytohkioakipjanaa
