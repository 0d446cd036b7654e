/-
  THE DOCUMENT'S ANSWERS for events: plimsollref07.Check, Follow, Between.
-/
import Derived.Test.YtgijejdehenmpaaRs4
namespace Go.Proofs.Ytgijejdehenmpaa
open Go Go.RowKit

set_option maxRecDepth 100000 in
theorem rev_raw (t v c : Int) (s : Bool) (hi : EvIn ⟨t, v, c, s⟩) (w : World) :
    Calls Try.prog 18 #[.agg #[.int .i64 t, .int .u64 v, .int .i64 c, .bool s]] w fun e w' => e = .returned (.int .i64 (evE ⟨t, v, c, s⟩)) ∧ Below w.heap.size w w' := by
  have HI := Lib.hid hi
  clear hi
  go_enter Try.func18, Try.ntmps18
  go_wp2
  all_goals
    go_ret
    have hv0 := HI.out.v0
    have hv1 := HI.out.v1
    simp only at hv0 hv1
    refine ⟨ret_i (Eq.symm ?_), by go_grown⟩
    first
    | (refine evE_yes ⟨?_, ?_, hv0, hv1, ?_, ?_, ?_⟩ <;> first | (dsimp only; omega) | (intro h; show v = 0 ∧ c = 0; have h' : s = true := h; clear h; first | exact ⟨by assumption, by assumption⟩ | exact absurd h' (by assumption) | simp_all))
    | (refine evE_no fun h => ?_
       have h0 := h.t0; have h1 := h.t1; have h2 := h.c0; have h3 := h.c1; have h4 := h.st
       simp only at h0 h1 h2 h3 h4
       first | omega | (have h5 := h4 (by assumption); omega) | (have h5 := h4 (by assumption); simp only [bne_iff_ne, ne_eq] at *; omega))
theorem rev_ck {e : Ev} (hi : EvIn e) (w : World) : Calls Try.prog 18 #[.agg (evA e)] w fun r w' => r = .returned (.int .i64 (evE e)) ∧ Below w.heap.size w w' := rev_raw e.t e.v e.c e.s hi w
theorem rev_yes {e : Ev} (h : EvOk e) (w : World) : Calls Try.prog 18 #[.agg (evA e)] w fun r w' => r = .returned (.int .i64 0) ∧ Below w.heap.size w w' := by
  have := rev_ck h.in w
  rwa [evE_yes h] at this
theorem rev_no {e : Ev} (hi : EvIn e) (h : ¬ EvOk e) (w : World) : Calls Try.prog 18 #[.agg (evA e)] w fun r w' => r = .returned (.int .i64 2) ∧ Below w.heap.size w w' := by
  have := rev_ck hi w
  rwa [evE_no h] at this
set_option maxHeartbeats 4000000 in
set_option maxRecDepth 100000 in
theorem rfol1 {p c : Ev} (hp : EvOk p) (hc : EvOk c) (ht : p.t < c.t) (w : World) :
    Calls Try.prog 20 #[.agg (evA p), .agg (evA c)] w fun e w' => e = .returned (.bool true) ∧ Below w.heap.size w w' := by
  have d1 : decide (p.t < c.t) = true := by simp <;> omega
  have HP := Lib.hid hp
  have HC := Lib.hid hc
  clear hp hc
  have HB := Lib.hid (Below.refl w.heap.size w)
  go_enter Try.func20, Try.ntmps20
  go_wp2_with (first
      | ((with_reducible refine at_slot 2 ?_); refine wl_box (A := (evA p)) rfl rfl rfl ?_; intro W1 g1 k1 hb hle; have L1 := Lib.hid (Nat.le_trans HB.out.size hle); replace HB := Lib.hid (below_tr HB.out hb); clear hb hle)
      | ((with_reducible refine at_slot 3 ?_); refine wl_box (A := (evA c)) rfl rfl rfl ?_; intro W2 g2 k2 hb hle; have n1_2 := Lib.hid (Blk.ne_of_le k1 hle); have L2 := Lib.hid (Nat.le_trans HB.out.size hle); replace k1 := k1.keep hb; replace HB := Lib.hid (below_tr HB.out hb); clear hb hle)
      | ((with_reducible refine at_slot 5 ?_); refine wl_ld0 rfl rfl rfl k1 Try.underlying24 rfl evInfo ?_)
      | ((with_reducible refine at_slot 6 ?_); refine wl_call rfl rfl Try.func18 (by kernel_rfl) rfl (rev_yes HP.out _) rfl ?_; intro V1 hb; replace k1 := k1.keep hb; replace k2 := k2.keep hb; replace HB := Lib.hid (below_tr HB.out hb); clear hb)
      | ((with_reducible refine at_slot 9 ?_); refine wl_ld0 rfl rfl rfl k2 Try.underlying24 rfl evInfo ?_)
      | ((with_reducible refine at_slot 10 ?_); refine wl_call rfl rfl Try.func18 (by kernel_rfl) rfl (rev_yes HC.out _) rfl ?_; intro V2 hb; replace k1 := k1.keep hb; replace k2 := k2.keep hb; replace HB := Lib.hid (below_tr HB.out hb); clear hb)
      | ((with_reducible refine at_slot 15 ?_); refine wl_ld1 (v := .int .i64 p.t) rfl rfl rfl k1 Try.underlying2 rfl rfl ?_)
      | ((with_reducible refine at_slot 17 ?_); refine wl_ld1 (v := .int .i64 c.t) rfl rfl rfl k2 Try.underlying2 rfl rfl ?_))
  go_ret
  exact ⟨rfl, HB.out⟩
set_option maxHeartbeats 4000000 in
set_option maxRecDepth 100000 in
theorem rfol2 {p c : Ev} (hp : EvOk p) (hc : EvOk c) (ht : ¬ p.t < c.t) (w : World) :
    Calls Try.prog 20 #[.agg (evA p), .agg (evA c)] w fun e w' => e = .returned (.bool false) ∧ Below w.heap.size w w' := by
  have d1 : decide (p.t < c.t) = false := by simp <;> omega
  have HP := Lib.hid hp
  have HC := Lib.hid hc
  clear hp hc
  have HB := Lib.hid (Below.refl w.heap.size w)
  go_enter Try.func20, Try.ntmps20
  go_wp2_with (first
      | ((with_reducible refine at_slot 2 ?_); refine wl_box (A := (evA p)) rfl rfl rfl ?_; intro W1 g1 k1 hb hle; have L1 := Lib.hid (Nat.le_trans HB.out.size hle); replace HB := Lib.hid (below_tr HB.out hb); clear hb hle)
      | ((with_reducible refine at_slot 3 ?_); refine wl_box (A := (evA c)) rfl rfl rfl ?_; intro W2 g2 k2 hb hle; have n1_2 := Lib.hid (Blk.ne_of_le k1 hle); have L2 := Lib.hid (Nat.le_trans HB.out.size hle); replace k1 := k1.keep hb; replace HB := Lib.hid (below_tr HB.out hb); clear hb hle)
      | ((with_reducible refine at_slot 5 ?_); refine wl_ld0 rfl rfl rfl k1 Try.underlying24 rfl evInfo ?_)
      | ((with_reducible refine at_slot 6 ?_); refine wl_call rfl rfl Try.func18 (by kernel_rfl) rfl (rev_yes HP.out _) rfl ?_; intro V1 hb; replace k1 := k1.keep hb; replace k2 := k2.keep hb; replace HB := Lib.hid (below_tr HB.out hb); clear hb)
      | ((with_reducible refine at_slot 9 ?_); refine wl_ld0 rfl rfl rfl k2 Try.underlying24 rfl evInfo ?_)
      | ((with_reducible refine at_slot 10 ?_); refine wl_call rfl rfl Try.func18 (by kernel_rfl) rfl (rev_yes HC.out _) rfl ?_; intro V2 hb; replace k1 := k1.keep hb; replace k2 := k2.keep hb; replace HB := Lib.hid (below_tr HB.out hb); clear hb)
      | ((with_reducible refine at_slot 15 ?_); refine wl_ld1 (v := .int .i64 p.t) rfl rfl rfl k1 Try.underlying2 rfl rfl ?_)
      | ((with_reducible refine at_slot 17 ?_); refine wl_ld1 (v := .int .i64 c.t) rfl rfl rfl k2 Try.underlying2 rfl rfl ?_))
  go_ret
  exact ⟨rfl, HB.out⟩
set_option maxHeartbeats 4000000 in
set_option maxRecDepth 100000 in
theorem rfol3 {p c : Ev} (ip : EvIn p) (hp : ¬ EvOk p) (w : World) :
    Calls Try.prog 20 #[.agg (evA p), .agg (evA c)] w fun e w' => e = .returned (.bool false) ∧ Below w.heap.size w w' := by
  have HP := Lib.hid hp
  have IP := Lib.hid ip
  clear hp ip
  have HB := Lib.hid (Below.refl w.heap.size w)
  go_enter Try.func20, Try.ntmps20
  go_wp2_with (first
      | ((with_reducible refine at_slot 2 ?_); refine wl_box (A := (evA p)) rfl rfl rfl ?_; intro W1 g1 k1 hb hle; have L1 := Lib.hid (Nat.le_trans HB.out.size hle); replace HB := Lib.hid (below_tr HB.out hb); clear hb hle)
      | ((with_reducible refine at_slot 3 ?_); refine wl_box (A := (evA c)) rfl rfl rfl ?_; intro W2 g2 k2 hb hle; have n1_2 := Lib.hid (Blk.ne_of_le k1 hle); have L2 := Lib.hid (Nat.le_trans HB.out.size hle); replace k1 := k1.keep hb; replace HB := Lib.hid (below_tr HB.out hb); clear hb hle)
      | ((with_reducible refine at_slot 5 ?_); refine wl_ld0 rfl rfl rfl k1 Try.underlying24 rfl evInfo ?_)
      | ((with_reducible refine at_slot 6 ?_); refine wl_call rfl rfl Try.func18 (by kernel_rfl) rfl (rev_no IP.out HP.out _) rfl ?_; intro V1 hb; replace k1 := k1.keep hb; replace k2 := k2.keep hb; replace HB := Lib.hid (below_tr HB.out hb); clear hb)
      | ((with_reducible refine at_slot 9 ?_); refine wl_ld0 rfl rfl rfl k2 Try.underlying24 rfl evInfo ?_)
      | ((with_reducible refine at_slot 15 ?_); refine wl_ld1 (v := .int .i64 p.t) rfl rfl rfl k1 Try.underlying2 rfl rfl ?_)
      | ((with_reducible refine at_slot 17 ?_); refine wl_ld1 (v := .int .i64 c.t) rfl rfl rfl k2 Try.underlying2 rfl rfl ?_))
  go_ret
  exact ⟨rfl, HB.out⟩
set_option maxHeartbeats 4000000 in
set_option maxRecDepth 100000 in
theorem rfol4 {p c : Ev} (hp : EvOk p) (ic : EvIn c) (hc : ¬ EvOk c) (w : World) :
    Calls Try.prog 20 #[.agg (evA p), .agg (evA c)] w fun e w' => e = .returned (.bool false) ∧ Below w.heap.size w w' := by
  have HP := Lib.hid hp
  have HC := Lib.hid hc
  have IC := Lib.hid ic
  clear hp hc ic
  have HB := Lib.hid (Below.refl w.heap.size w)
  go_enter Try.func20, Try.ntmps20
  go_wp2_with (first
      | ((with_reducible refine at_slot 2 ?_); refine wl_box (A := (evA p)) rfl rfl rfl ?_; intro W1 g1 k1 hb hle; have L1 := Lib.hid (Nat.le_trans HB.out.size hle); replace HB := Lib.hid (below_tr HB.out hb); clear hb hle)
      | ((with_reducible refine at_slot 3 ?_); refine wl_box (A := (evA c)) rfl rfl rfl ?_; intro W2 g2 k2 hb hle; have n1_2 := Lib.hid (Blk.ne_of_le k1 hle); have L2 := Lib.hid (Nat.le_trans HB.out.size hle); replace k1 := k1.keep hb; replace HB := Lib.hid (below_tr HB.out hb); clear hb hle)
      | ((with_reducible refine at_slot 5 ?_); refine wl_ld0 rfl rfl rfl k1 Try.underlying24 rfl evInfo ?_)
      | ((with_reducible refine at_slot 6 ?_); refine wl_call rfl rfl Try.func18 (by kernel_rfl) rfl (rev_yes HP.out _) rfl ?_; intro V1 hb; replace k1 := k1.keep hb; replace k2 := k2.keep hb; replace HB := Lib.hid (below_tr HB.out hb); clear hb)
      | ((with_reducible refine at_slot 9 ?_); refine wl_ld0 rfl rfl rfl k2 Try.underlying24 rfl evInfo ?_)
      | ((with_reducible refine at_slot 10 ?_); refine wl_call rfl rfl Try.func18 (by kernel_rfl) rfl (rev_no IC.out HC.out _) rfl ?_; intro V2 hb; replace k1 := k1.keep hb; replace k2 := k2.keep hb; replace HB := Lib.hid (below_tr HB.out hb); clear hb)
      | ((with_reducible refine at_slot 15 ?_); refine wl_ld1 (v := .int .i64 p.t) rfl rfl rfl k1 Try.underlying2 rfl rfl ?_)
      | ((with_reducible refine at_slot 17 ?_); refine wl_ld1 (v := .int .i64 c.t) rfl rfl rfl k2 Try.underlying2 rfl rfl ?_))
  go_ret
  exact ⟨rfl, HB.out⟩
theorem rfol_yes {p c : Ev} (h : Fol p c) (w : World) : Calls Try.prog 20 #[.agg (evA p), .agg (evA c)] w fun e w' => e = .returned (.bool true) ∧ Below w.heap.size w w' := rfol1 h.1 h.2.1 h.2.2 w
theorem rfol_no {p c : Ev} (ip : EvIn p) (ic : EvIn c) (h : ¬ Fol p c) (w : World) : Calls Try.prog 20 #[.agg (evA p), .agg (evA c)] w fun e w' => e = .returned (.bool false) ∧ Below w.heap.size w w' := by
  by_cases hp : EvOk p
  · by_cases hc : EvOk c
    · exact rfol2 hp hc (fun ht => h ⟨hp, hc, ht⟩) w
    · exact rfol4 hp ic hc w
  · exact rfol3 ip hp w
end Go.Proofs.Ytgijejdehenmpaa
