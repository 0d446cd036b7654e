/-
  AN ABSTRACT MACHINE, for this program: how its structs are held against one another.
-/
import Derived.Test.YtkoiogfhbipmjaaAm20
import Derived.IntWalk
namespace Go.Proofs.Ytkoiogfhbipmjaa
open Go Go.RowKit

open Classical in
noncomputable def eqD {α : Type} (x y : α) : Bool := decide (x = y)
theorem eqD_yes {α : Type} {x y : α} (h : x = y) : eqD x y = true := by unfold eqD; simpa using h
theorem eqD_no {α : Type} {x y : α} (h : ¬ x = y) : eqD x y = false := by unfold eqD; simpa using h
theorem eqD_iff {α : Type} {x y : α} : eqD x y = true ↔ x = y := by unfold eqD; simp
theorem eqD_ff {α : Type} {x y : α} : eqD x y = false ↔ ¬ x = y := by unfold eqD; simp
theorem D.Ev.ext' {x y : D.Ev} (h1 : x.t = y.t) (h2 : x.v = y.v) (h3 : x.c = y.c) (h4 : x.s = y.s) : x = y := by
  cases x; cases y; simp_all
theorem D.Wd.ext' {x y : D.Wd} (h1 : x.hi = y.hi) (h2 : x.lo = y.lo) : x = y := by
  cases x; cases y; simp_all
theorem D.Ce.ext' {x y : D.Ce} (h1 : x.n = y.n) (h2 : x.f = y.f) (h3 : x.l = y.l) (h4 : x.hi = y.hi) (h9 : x.lo = y.lo) (h5 : x.r = y.r) (h6 : x.g = y.g) (h7 : x.s = y.s) : x = y := by
  cases x; cases y; simp_all
theorem grepL_v {w : World} {W : Nat → Prop} : ∀ {xs vs : List Value}, GRepL w W (xs.map .v) vs → vs = xs
  | [], [], _ => rfl
  | x :: xs, v :: vs, h => by
    obtain ⟨h1, h2⟩ := h
    rw [grepL_v h2]
    cases h1
    rfl
  | [], _ :: _, h => h.elim
  | _ :: _, [], h => h.elim
def evV (e : D.Ev) : List Value := [.int .i64 e.t, .int .u64 e.v, .int .i64 e.c, .bool e.s]
def ceV (x : D.Ce) : List Value := [.int .i64 x.n, .int .i64 x.f.t, .int .u64 x.f.v, .int .i64 x.f.c, .bool x.f.s, .int .i64 x.l.t, .int .u64 x.l.v, .int .i64 x.l.c, .bool x.l.s, .int .u64 x.hi, .int .u64 x.lo, .int .i64 x.r, .int .i64 x.g, .int .i64 x.s]
def wdV (x : D.Wd) : List Value := [.int .u64 x.hi, .int .u64 x.lo]
theorem eq_of_bin {P : Program} {t : TypeId} {a b : Array Value} {r : Bool} {w : World} (h : (binOp .eql t (.agg a) (.agg b)).run P w = .ok (.bool r) w) : (Op.equal t (.agg a) (.agg b)).run P w = .ok r w := by
  simp only [binOp, Sem.run_bind] at h
  cases hq : (Op.equal t (.agg a) (.agg b)).run P w <;> rw [hq] at h <;> simp [Result.andThen] at h
  rw [h.1, h.2]
theorem if_none' {p : Prop} [Decidable p] {w : World} {x : Result Value} (h : p → x = .ok (.bool false) w) : (if p then x else .ok (.bool false) w) = .ok (.bool false) w := by
  split
  · exact h (by assumption)
  · rfl
theorem ev_eqD (x y : D.Ev) (w : World) : (Op.equal 26 (.agg (evV x).toArray) (.agg (evV y).toArray)).run Try.prog w = .ok (eqD x y) w := by
  refine eq_of_bin ?_
  unfold evV
  go_simp
  by_cases h : x = y
  · rw [eqD_yes h]; subst h; simp
  · rw [eqD_no h]
    repeat' split
    all_goals first | rfl | exact absurd (D.Ev.ext' (by assumption) (by assumption) (by assumption) (by assumption)) h
theorem wd_eqD (x y : D.Wd) (w : World) : (Op.equal 28 (.agg (wdV x).toArray) (.agg (wdV y).toArray)).run Try.prog w = .ok (eqD x y) w := by
  refine eq_of_bin ?_
  unfold wdV
  go_simp
  by_cases h : x = y
  · rw [eqD_yes h]; subst h; simp
  · rw [eqD_no h]
    repeat' split
    all_goals first | rfl | exact absurd (D.Wd.ext' (by assumption) (by assumption)) h
theorem ce_eqD (x y : D.Ce) (w : World) : (Op.equal 30 (.agg (ceV x).toArray) (.agg (ceV y).toArray)).run Try.prog w = .ok (eqD x y) w := by
  refine eq_of_bin ?_
  unfold ceV
  go_simp
  by_cases h : x = y
  · rw [eqD_yes h]; subst h; simp
  · rw [eqD_no h]
    refine if_none' fun h1 => if_none' fun h2 => if_none' fun h3 => if_none' fun h4 => if_none' fun h5 => if_none' fun h6 => if_none' fun h7 => if_none' fun h8 => if_none' fun h9 => if_none' fun h10 => if_none' fun h11 => if_none' fun h12 => if_none' fun h13 => ?_
    refine if_neg fun h14 => h ?_
    exact D.Ce.ext' h1 (D.Ev.ext' h2 h3 h4 h5) (D.Ev.ext' h6 h7 h8 h9) h10 h11 h12 h13 h14
noncomputable def eqOf (t : TypeId) (xs ys : List GV) : Option Bool :=
  bif Nat.beq t 26 then (match decEv xs, decEv ys with | some x, some y => some (eqD x y) | _, _ => none) else
  bif Nat.beq t 28 then (match decWd xs, decWd ys with | some x, some y => some (eqD x y) | _, _ => none) else
  bif Nat.beq t 30 then (match decCe xs, decCe ys with | some x, some y => some (eqD x y) | _, _ => none) else
  none
theorem evG_v (e : D.Ev) : evG e = (evV e).map .v := rfl
theorem ceG_v (e : D.Ce) : ceG e = (ceV e).map .v := rfl
theorem wdG_v (e : D.Wd) : wdG e = (wdV e).map .v := rfl
theorem eqOf_sound {t : TypeId} {xs ys : List GV} {b : Bool} {W : Nat → Prop} {w : World} {vx vy : List Value} (h : eqOf t xs ys = some b) (hx : GRepL w W xs vx) (hy : GRepL w W ys vy) :
    Try.prog.eqGuardType Try.prog.depth t = false ∧ (Op.equal t (.agg vx.toArray) (.agg vy.toArray)).run Try.prog w = .ok b w := by
  unfold eqOf at h
  cases hb : Nat.beq t 26 with
  | true =>
    rw [hb] at h
    simp only [cond_true] at h
    split at h
    · rename_i x y h1 h2
      cases h
      rw [decEv_eq h1, evG_v] at hx
      rw [decEv_eq h2, evG_v] at hy
      rw [grepL_v hx, grepL_v hy, Nat.eq_of_beq_eq_true hb]
      exact ⟨by kernel_rfl, ev_eqD x y w⟩
    · cases h
  | false =>
  rw [hb] at h
  simp only [cond_false] at h
  clear hb
  cases hb : Nat.beq t 28 with
  | true =>
    rw [hb] at h
    simp only [cond_true] at h
    split at h
    · rename_i x y h1 h2
      cases h
      rw [decWd_eq h1, wdG_v] at hx
      rw [decWd_eq h2, wdG_v] at hy
      rw [grepL_v hx, grepL_v hy, Nat.eq_of_beq_eq_true hb]
      exact ⟨by kernel_rfl, wd_eqD x y w⟩
    · cases h
  | false =>
  rw [hb] at h
  simp only [cond_false] at h
  clear hb
  cases hb : Nat.beq t 30 with
  | true =>
    rw [hb] at h
    simp only [cond_true] at h
    split at h
    · rename_i x y h1 h2
      cases h
      rw [decCe_eq h1, ceG_v] at hx
      rw [decCe_eq h2, ceG_v] at hy
      rw [grepL_v hx, grepL_v hy, Nat.eq_of_beq_eq_true hb]
      exact ⟨by kernel_rfl, ce_eqD x y w⟩
    · cases h
  | false =>
  rw [hb] at h
  simp only [cond_false] at h
  clear hb
  cases h
noncomputable def eqT : EqT Try.prog := ⟨eqOf, eqOf_sound⟩
/-- What slices of a type have. -/
def kOf (t : TypeId) : Option SL :=
  bif Nat.beq t 26 then some (.ev []) else
  bif Nat.beq t 30 then some (.ce []) else
  bif Nat.beq t 28 then some (.wd []) else
  none
end Go.Proofs.Ytkoiogfhbipmjaa
