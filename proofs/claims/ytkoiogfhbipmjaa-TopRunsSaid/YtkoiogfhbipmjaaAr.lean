/-
  AN ABSTRACT MACHINE: how a loop is come into, and gone on with; how what a function comes to is told.
-/
import Derived.Test.YtkoiogfhbipmjaaAq
namespace Go.Proofs.Ytkoiogfhbipmjaa
open Go Go.RowKit
theorem cond_mk {b : Bool} {p q : Prop} (h1 : b = true → p) (h2 : b = false → q) : cond b p q := by
  cases b
  · exact h2 rfl
  · exact h1 rfl
/-- What is asked of a function, of its answer. -/
def ends (P : Program) (rs : List ResultVar) (r : List RV) (e : Ex) (S : St) : Prop := match e with
  | .exi _ => False
  | _ => resOk P S (frOf r).isEmpty rs r
def runs {P : Program} (V : Env P) (fn : Func) (L : List (Nat × LTr)) (args : List XV) (r : List RV) : Prop :=
  match fn.body with
  | some code => awp V fn.ntmps L code 0 ⟨entT args 0, []⟩ fun e _ S => ends P fn.results.toList r e S
  | none => False
theorem callsem {P : Program} (V : Env P) (hm : P.follows .mixedOrders = true) {f : FuncId} {fn : Func} {spec : Spec} (hf : P.funcs[f]? = some fn)
    (h : ∀ args, (spec args).p → ∃ L, (noRef args = true ∧ Nat.ble args.length fn.ntmps = true ∧ (spec args).refs = [] ∧ Nat.ble (frOf (spec args).r).length 1 = true) ∧ runs V fn L args (spec args).r) : CallSem P f spec := by
  cases hb : fn.body with
  | none =>
    intro args vs bs w X h1 h2 h3 h4 hp
    obtain ⟨L, -, this⟩ := h args hp
    unfold runs at this
    rw [hb] at this
    exact this.elim
  | some code =>
    refine callsem_of V hm hf hb fun args hp => ?_
    obtain ⟨L, ⟨h1, h2, h3, h4⟩, h5⟩ := h args hp
    refine ⟨L, h1, Nat.le_of_ble_eq_true h2, h3, Nat.le_of_ble_eq_true h4, ?_⟩
    unfold runs at h5
    rw [hb] at h5
    exact h5
end Go.Proofs.Ytkoiogfhbipmjaa
