/-
  A DRAWN REGION WHOSE LAST OPERATION STORES: what it has read may be turned by that one: a condition on the world that holds behind each operation but one, for which all others are waited.
-/
import Derived.Test.YtohkioakipjanaaRh
namespace Go.Proofs.Ytohkioakipjanaa
open Go Go.RowKit

theorem listed_no {l : Array Bool} {i : Nat} (h : l.getD i true = false) : ¬ l.getD i false = true := by
  rcases Nat.lt_or_ge i l.size with hi | hi
  · simp [hi] at h ⊢; exact h
  · simp [Array.getElem?_eq_none hi] at h
section
variable {P : Program} {md : Region.Mode} {ops : Array Oper} {Q : Exit → Act → World → Prop} {S : World → Prop} {z : Nat}
/-- Whatever comes up next; S holds behind each one but z. -/
def lastAny (P : Program) (md : Region.Mode) (ops : Array Oper) (Q : Exit → Act → World → Prop) (S : World → Prop) (z : Nat) : Nat → Array Bool → Act → World → Prop
  | 0, l, a, w => Region.ready md ops l = [] ∧ Q .normal a w
  | n + 1, l, a, w => (Region.ready md ops l = [] → Q .normal a w) ∧
      ∀ j ∈ Region.ready md ops l, wpOp P ops Q j (fun b v => (j ≠ z → S v) ∧ lastAny P md ops Q S z n (l.setIfInBounds j true) b v) a w
theorem last_any : ∀ (n : Nat) (l : Array Bool) (a : Act) (w : World), lastAny P md ops Q S z n l a w → wpAny P md ops Q n l a w
  | 0, _, _, _, h => h
  | n + 1, _, _, _, h => ⟨h.1, fun j hj => wpOp_mono (fun _ _ k => last_any n _ _ _ k.2) (h.2 j hj)⟩
theorem last_begin {id : Nat} {a : Act} {w : World} (hm : P.follows .mixedOrders = true) (hS : S w.drew) (h : S w.drew → lastAny P .any ops Q S z ops.size (Array.replicate ops.size false) a w.drew) : (Code.region id ops true).wp P Q a w :=
  wp_region_any hm (last_any _ _ _ _ (h hS))
theorem last_done {l : Array Bool} {a : Act} {w : World} (hr : Region.ready md ops l = []) (h : Q .normal a w) : ∀ n, lastAny P md ops Q S z n l a w
  | 0 => ⟨hr, h⟩
  | _ + 1 => ⟨fun _ => h, by rw [hr]; simp⟩
/-- Does z wait for i? -/
def waits (md : Region.Mode) (ops : Array Oper) (z i : Nat) : Bool := match ops[z]? with
  | some o => o.after.any (fun e => Region.binds md e && e.on == i)
  | none => false
theorem last_first {i : Nat} {oi : Oper} {v : Value} (hi : ops[i]? = some oi) (hw : waits md ops z i = true) (hsel : ∀ (j : Nat) (o : Oper) cs b, ops[j]? = some o → o.op ≠ .select cs b)
    (hQ : ∀ c a w, Q (.panic c) (a.put oi.dst v) w → Q (.panic c) a w) (hiz : i ≠ z) : ∀ (n : Nat) (l : Array Bool) (a : Act) (w : World),
      (∀ j oj, ops[j]? = some oj → j ≠ i → l.getD j true = false → (∀ e ∈ oj.after, Region.binds md e = true → e.on ≠ i) → oi.apart ops oj = true) →
      i ∈ Region.ready md ops l → YieldsIf P ops S oi v a → S w → lastAny P md ops Q S z n (l.setIfInBounds i true) (a.put oi.dst v) w → lastAny P md ops Q S z (n + 1) l a w := by
  intro n
  induction n with
  | zero =>
    intro l a w _ hr hy hS H
    refine ⟨fun h => absurd (h ▸ hr) (by simp), fun j hj => ?_⟩
    rcases Decidable.em (j = i) with rfl | hne
    · exact hy.wpOp hi hS ⟨fun _ => hS, H⟩
    · exact absurd (H.1 ▸ ready_mono hj hne) (by simp)
  | succ n ih =>
    intro l a w hfree hr hy hS H
    refine ⟨fun h => absurd (h ▸ hr) (by simp), fun j hj => ?_⟩
    rcases Decidable.em (j = i) with rfl | hne
    · exact hy.wpOp hi hS ⟨fun _ => hS, H⟩
    · obtain ⟨hlj, oj, hoj, hall⟩ := mem_ready.1 hj
      have hli := (mem_ready.1 hr).1
      have hno : ∀ e ∈ oj.after, Region.binds md e = true → e.on ≠ i := fun e he hb heq => by
        have := hall e he hb
        rw [heq] at this
        exact absurd this (listed_no hli)
      have hjz : j ≠ z := fun e => by
        subst e
        unfold waits at hw
        rw [hoj] at hw
        obtain ⟨k, hk, hb⟩ := Array.any_eq_true.1 hw
        rw [Bool.and_eq_true] at hb
        exact hno _ (Array.getElem_mem hk) hb.1 (by simpa using hb.2)
      have h2 := wpOp_putIf hoj (hfree j oj hoj hne hlj hno) (fun cs b => hsel i oi cs b hi) (fun cs b => hsel j oj cs b hoj) hQ hy (H.2 j (ready_mono hj hne))
      refine wpOp_mono (fun b u h3 => ⟨fun _ => h3.2.1 hjz, ih (l.setIfInBounds j true) b u (fun k ok hk hki hun hn => hfree k ok hk hki (by
        rcases Decidable.em (j = k) with rfl | hjk
        · exact hlj
        · rwa [getD_set_ne true hjk] at hun) hn) (ready_mono hr (Ne.symm hne)) h3.1 (h3.2.1 hjz) ?_⟩) h2
      have hx := h3.2.2
      rwa [Array.setIfInBounds_comm _ _ (Ne.symm hne)] at hx
theorem last_take {i : Nat} {oi : Oper} {v : Value} {n : Nat} {l : Array Bool} {a : Act} {w : World} (hi : ops[i]? = some oi) (hw : (waits md ops z i && !(i == z)) = true)
    (hs : Region.noSelect ops = true) (hf : Region.free md ops l i = true) (hr : (Region.ready md ops l).contains i = true)
    (hQ : ∀ c a w, Q (.panic c) (a.put oi.dst v) w → Q (.panic c) a w) (hy : YieldsIf P ops S oi v a) (hS : S w)
    (h : lastAny P md ops Q S z n (l.setIfInBounds i true) (a.put oi.dst v) w) : lastAny P md ops Q S z (n + 1) l a w := by
  rw [Bool.and_eq_true] at hw
  exact last_first hi hw.1 (Region.noSelect_spec hs) hQ (by simpa using hw.2) n l a w (Region.free_spec hi hf) (by simpa using hr) hy hS h
/-- The one that may come up now. -/
theorem last_one {i n : Nat} {op : Oper} {l : Array Bool} {a : Act} {w : World} (hrd : Region.ready md ops l = [i]) (hi : ops[i]? = some op)
    (h : ∀ K' : Act → World → Prop, (∀ b v, (i ≠ z → S v) → lastAny P md ops Q S z n (l.setIfInBounds i true) b v → K' b v) → if Region.wanted op (yielded ops a.tmps) = true then op.wp P a w K' Q else K' (a.put op.dst undef) w) : lastAny P md ops Q S z (n + 1) l a w := by
  refine ⟨fun h0 => absurd (h0 ▸ hrd) (by simp), fun j hj => ?_⟩
  rw [hrd] at hj
  obtain rfl : j = i := by simpa using hj
  have h1 := h (fun b v => (j ≠ z → S v) ∧ lastAny P md ops Q S z n (l.setIfInBounds j true) b v) (fun b v h2 h3 => ⟨h2, h3⟩)
  unfold wpOp
  simp only [hi]
  split
  · rename_i hw
    rw [if_pos hw] at h1
    exact Or.inl h1
  · rename_i hw
    rw [if_neg hw] at h1
    exact h1
theorem last_only {i n : Nat} {oi : Oper} {v : Value} {l : Array Bool} {a : Act} {w : World} (hrd : Region.ready md ops l = [i]) (hi : ops[i]? = some oi) (hy : YieldsIf P ops S oi v a) (hS : S w)
    (h : lastAny P md ops Q S z n (l.setIfInBounds i true) (a.put oi.dst v) w) : lastAny P md ops Q S z (n + 1) l a w := by
  refine ⟨fun h0 => absurd (h0 ▸ hrd) (by simp), fun j hj => ?_⟩
  rw [hrd] at hj
  obtain rfl : j = i := by simpa using hj
  exact hy.wpOp hi hS ⟨fun _ => hS, h⟩
/-- A call, of one answer. -/
theorem last_call {i n : Nat} {op : Oper} {l : Array Bool} {a : Act} {w : World} {f : FuncId} {fn : Func} {c : Code} {xs : Array Operand} {ts : Array TypeId} {vals : Array Value} {v : Value} {R : World → Prop} (hrd : Region.ready md ops l = [i]) (hi : ops[i]? = some op)
    (ho : op.op = .call { callee := .value (.func f), args := xs, argTypes := ts }) (hw : Region.wanted op (yielded ops a.tmps) = true)
    (hf : P.funcs[f]? = some fn) (hname : (fn.name == "runtime.NumGoroutine") = false) (hb : fn.body = some c)
    (hc : Calls P f vals w fun e w' => e = .returned v ∧ R w') (hx : xs.toList.map a.eval = vals.toList) (hS : ∀ w', R w' → S w') (h : ∀ w', R w' → S w' → lastAny P md ops Q S z n (l.setIfInBounds i true) (a.put op.dst v) w') : lastAny P md ops Q S z (n + 1) l a w := by
  refine last_one hrd hi (fun K' hK => ?_)
  rw [if_pos hw]
  have h1 : fn.name ≠ "runtime.NumGoroutine" := by simpa using hname
  have hr : (execOp a.eval op).run P w = .ok (.enter f vals) w := by
    unfold execOp
    have hx' : xs.map a.eval = vals := by
      refine Array.ext' ?_
      rw [Array.toList_map]
      exact hx
    simp [ho, resolve, Act.eval, Deferred.ofValue, invoke, callFunc, hf, h1, hb, Sem.run_bind, ← hx']
  unfold Oper.wp
  rw [hr, Oper.upon_enter]
  refine hc.mono ?_
  rintro e w' ⟨rfl, hR⟩
  exact hK _ _ (fun _ => hS w' hR) (h w' hR (hS w' hR))
end
end Go.Proofs.Ytohkioakipjanaa
