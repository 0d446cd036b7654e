/-
  WALKS: event.Check: what it answers, of any event.
-/
import Derived.Test.YtohkioakipjanaaFl
import Derived.Test.YtohkioakipjanaaMath
import Derived.Handy
import Derived.Laws.StructEq
import Derived.IntWalk
namespace Go.Proofs.Ytohkioakipjanaa
open Go Go.RowKit

structure Ev where
  t : Int
  v : Int
  c : Int
  s : Bool
/-- What an event's numbers are between. -/
structure EvIn (e : Ev) : Prop where
  t0 : -9223372036854775808 ≤ e.t
  t1 : e.t ≤ 9223372036854775807
  v0 : 0 ≤ e.v
  v1 : e.v ≤ 18446744073709551615
  c0 : -9223372036854775808 ≤ e.c
  c1 : e.c ≤ 9223372036854775807
/-- Is it right? -/
structure EvOk (e : Ev) : Prop where
  t0 : 0 ≤ e.t
  t1 : e.t < 35184372088832
  v0 : 0 ≤ e.v
  v1 : e.v ≤ 18446744073709551615
  c0 : 0 ≤ e.c
  c1 : e.c ≤ e.t
  st : e.s = true → e.v = 0 ∧ e.c = 0
theorem EvOk.in {e : Ev} (h : EvOk e) : EvIn e := ⟨by have := h.t0; omega, by have := h.t1; omega, h.v0, h.v1, by have := h.c0; omega, by have := h.c1; have := h.t1; omega⟩
open Classical in
noncomputable def evE (e : Ev) : Int := if EvOk e then 0 else 2
theorem evE_yes {e : Ev} (h : EvOk e) : evE e = 0 := by unfold evE; rw [if_pos h]
theorem evE_no {e : Ev} (h : ¬ EvOk e) : evE e = 2 := by unfold evE; rw [if_neg h]

theorem ret_i {a b : Int} (h : a = b) : Ending.returned (.int .i64 a) = .returned (.int .i64 b) := by rw [h]

set_option maxRecDepth 100000 in
theorem ev_any (t v c : Int) (s : Bool) (hi : EvIn ⟨t, v, c, s⟩) (w : World) :
    Calls Try.prog 26 #[.agg #[.int .i64 t, .int .u64 v, .int .i64 c, .bool s]] w fun e w' => e = .returned (.int .i64 (evE ⟨t, v, c, s⟩)) ∧ Below w.heap.size w w' := by
  have HI := Lib.hid hi
  clear hi
  go_enter Try.func26, Try.ntmps26
  go_wp2
  all_goals
    go_ret
    have hv0 := HI.out.v0
    have hv1 := HI.out.v1
    simp only at hv0 hv1
    refine ⟨ret_i (Eq.symm ?_), by go_grown⟩
    first
    | (refine evE_yes ⟨?_, ?_, hv0, hv1, ?_, ?_, ?_⟩ <;> first | (dsimp only; omega) | (intro h; show v = 0 ∧ c = 0; have h' : s = true := h; clear h; first | exact ⟨by assumption, by assumption⟩ | exact absurd h' (by assumption) | simp_all))
    | (refine evE_no fun h => ?_
       have h0 := h.t0; have h1 := h.t1; have h2 := h.c0; have h3 := h.c1; have h4 := h.st
       simp only at h0 h1 h2 h3 h4
       first | omega | (have h5 := h4 (by assumption); omega))
end Go.Proofs.Ytohkioakipjanaa
