/-
  THE DOCUMENT'S ANSWER for an event: plimsollref07.Check.
-/
import Derived.Test.YtohkioakipjanaaCe6
namespace Go.Proofs.Ytohkioakipjanaa
open Go Go.RowKit

set_option maxRecDepth 100000 in
theorem rev_raw (t v c : Int) (s : Bool) (hi : EvIn ⟨t, v, c, s⟩) (w : World) :
    Calls Try.prog 28 #[.agg #[.int .i64 t, .int .u64 v, .int .i64 c, .bool s]] w fun e w' => e = .returned (.int .i64 (evE ⟨t, v, c, s⟩)) ∧ Below w.heap.size w w' := by
  have HI := Lib.hid hi
  clear hi
  go_enter Try.func28, Try.ntmps28
  go_wp2
  all_goals
    go_ret
    have hv0 := HI.out.v0
    have hv1 := HI.out.v1
    simp only at hv0 hv1
    refine ⟨ret_i (Eq.symm ?_), by go_grown⟩
    first
    | (refine evE_yes ⟨?_, ?_, hv0, hv1, ?_, ?_, ?_⟩ <;> first | (dsimp only; omega) | (intro h; show v = 0 ∧ c = 0; have h' : s = true := h; clear h; first | exact ⟨by assumption, by assumption⟩ | exact absurd h' (by assumption) | simp_all))
    | (refine evE_no fun h => ?_
       have h0 := h.t0; have h1 := h.t1; have h2 := h.c0; have h3 := h.c1; have h4 := h.st
       simp only at h0 h1 h2 h3 h4
       first | omega | (have h5 := h4 (by assumption); omega) | (have h5 := h4 (by assumption); simp only [bne_iff_ne, ne_eq] at *; omega))
theorem rev_ck {e : Ev} (hi : EvIn e) (w : World) : Calls Try.prog 28 #[.agg (evA e)] w fun r w' => r = .returned (.int .i64 (evE e)) ∧ Below w.heap.size w w' := rev_raw e.t e.v e.c e.s hi w
theorem rev_yes {e : Ev} (h : EvOk e) (w : World) : Calls Try.prog 28 #[.agg (evA e)] w fun r w' => r = .returned (.int .i64 0) ∧ Below w.heap.size w w' := by
  have := rev_ck h.in w
  rwa [evE_yes h] at this
theorem rev_no {e : Ev} (hi : EvIn e) (h : ¬ EvOk e) (w : World) : Calls Try.prog 28 #[.agg (evA e)] w fun r w' => r = .returned (.int .i64 2) ∧ Below w.heap.size w w' := by
  have := rev_ck hi w
  rwa [evE_no h] at this
end Go.Proofs.Ytohkioakipjanaa
