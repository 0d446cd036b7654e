/-
  THE DOCUMENT'S ANSWERS for cells: plimsollref08.Check.
-/
import Derived.Test.YtjdjebhimljedaaPs
import Derived.Test.YtjdjebhimljedaaE8
import Derived.Test.YtjdjebhimljedaaRa
import Derived.Test.YtjdjebhimljedaaRl
import Derived.Test.YtjdjebhimljedaaRt8
import Derived.Test.YtjdjebhimljedaaRx8
namespace Go.Proofs.Ytjdjebhimljedaa
open Go Go.RowKit

theorem ev_neq (x y : Ev) (w : World) : (binOp .neq 24 (.agg (evA x)) (.agg (evA y))).run Try.prog w = .ok (.bool (!eqB x y)) w := by
  unfold evA
  go_simp
  by_cases h : x = y
  · rw [eqB_yes h]; subst h; simp
  · rw [eqB_no h]
    repeat' split
    all_goals first | rfl | exact absurd (Ev.ext' (by assumption) (by assumption) (by assumption) (by assumption)) h
theorem ev_neq_yes {x y : Ev} (h : x = y) (w : World) : (binOp .neq 24 (.agg (evA x)) (.agg (evA y))).run Try.prog w = .ok (.bool false) w := by rw [ev_neq, eqB_yes h]; rfl
theorem ev_neq_no {x y : Ev} (h : ¬ x = y) (w : World) : (binOp .neq 24 (.agg (evA x)) (.agg (evA y))).run Try.prog w = .ok (.bool true) w := by rw [ev_neq, eqB_no h]; rfl
theorem rmost {k : Nat} (hk : k < 18446744073709551616) (w : World) : Calls Try.prog 28 #[.agg #[.int .u64 0, .int .u64 18446744073709551615], .int .u64 k] w fun e w' => e = .returned (.tuple #[.agg (wdA (timesU maxU k)), .int .i64 0]) ∧ Below w.heap.size w w' := by
  have := rtimes maxU k hk w
  rwa [maxU_hi, maxU_lo, show timesE maxU k = 0 from cutE_lt (most_n hk)] at this
theorem rlessW (a b : U) (w : World) : Calls Try.prog 29 #[.agg (wdA a), .agg (wdA b)] w fun e w' => e = .returned (.bool (lessB a b)) ∧ Below w.heap.size w w' := rless a b w
set_option maxHeartbeats 4000000 in
set_option maxRecDepth 100000 in
theorem rc_zero {x : Ce} (hi : CeIn x) (hz : x = zeroCe) (w : World) :
    Calls Try.prog 14 #[.agg (ceA x)] w fun e w' => e = .returned (.int .i64 0) ∧ Below w.heap.size w w' := by
  have q0 := hi.n0; have q1 := hi.n1; have q2 := hi.r0; have q3 := hi.r1; have q4 := hi.g0; have q5 := hi.g1; have q6 := hi.s0; have q7 := hi.s1
  have HZ := Lib.hid hz
  have HI := Lib.hid hi
  clear hz hi
  have HB := Lib.hid (Below.refl w.heap.size w)
  go_enter Try.func14, Try.ntmps14
  go_wp2_with (first
      | ((with_reducible refine at_slot 1 ?_); refine wl_box (A := (ceA x)) rfl rfl rfl ?_; intro W1 g1 k1 hb hle; have L1 := Lib.hid (Nat.le_trans HB.out.size hle); replace HB := Lib.hid (below_tr HB.out hb); clear hb hle)
      | ((with_reducible refine at_slot 5 ?_); refine wl_ld0 rfl rfl rfl k1 Try.underlying28 rfl ceInfo ?_)
      | ((with_reducible refine at_slot 6 ?_); refine wl_build (v := .agg (ceA zeroCe)) rfl rfl (build_ce0 _) rfl ?_)
      | ((with_reducible refine at_slot 7 ?_); refine wl_bin (v := .bool true) rfl rfl (run_eqGuard_agg _ _ _ _ _ _ _ (by kernel_rfl)) (ce_eql_yes HZ.out _) ?_))
  go_ret
  exact ⟨rfl, HB.out⟩
set_option maxHeartbeats 4000000 in
set_option maxRecDepth 100000 in
theorem rc_a {x : Ce} (hi : CeIn x) (hz : ¬ x = zeroCe) (h : x.n < 1) (w : World) :
    Calls Try.prog 14 #[.agg (ceA x)] w fun e w' => e = .returned (.int .i64 2) ∧ Below w.heap.size w w' := by
  have q0 := hi.n0; have q1 := hi.n1; have q2 := hi.r0; have q3 := hi.r1; have q4 := hi.g0; have q5 := hi.g1; have q6 := hi.s0; have q7 := hi.s1
  have d1 : decide (x.n < 1) = true := by simp <;> omega
  have HZ := Lib.hid hz
  have HI := Lib.hid hi
  clear hz hi
  have HB := Lib.hid (Below.refl w.heap.size w)
  go_enter Try.func14, Try.ntmps14
  go_wp2_with (first
      | ((with_reducible refine at_slot 1 ?_); refine wl_box (A := (ceA x)) rfl rfl rfl ?_; intro W1 g1 k1 hb hle; have L1 := Lib.hid (Nat.le_trans HB.out.size hle); replace HB := Lib.hid (below_tr HB.out hb); clear hb hle)
      | ((with_reducible refine at_slot 5 ?_); refine wl_ld0 rfl rfl rfl k1 Try.underlying28 rfl ceInfo ?_)
      | ((with_reducible refine at_slot 6 ?_); refine wl_build (v := .agg (ceA zeroCe)) rfl rfl (build_ce0 _) rfl ?_)
      | ((with_reducible refine at_slot 7 ?_); refine wl_bin (v := .bool false) rfl rfl (run_eqGuard_agg _ _ _ _ _ _ _ (by kernel_rfl)) (ce_eql_no HZ.out _) ?_)
      | ((with_reducible refine at_slot 9 ?_); refine wl_ld1 (v := .int .i64 x.n) rfl rfl rfl k1 Try.underlying2 rfl rfl ?_)
      | ((with_reducible refine at_slot 13 ?_); refine wl_ld (evA x.f) rfl rfl rfl k1 Try.underlying24 rfl evInfo (ceA_pf x) ?_)
      | ((with_reducible refine at_slot 19 ?_); refine wl_ld (evA x.l) rfl rfl rfl k1 Try.underlying24 rfl evInfo (ceA_pl x) ?_)
      | ((with_reducible refine at_slot 26 ?_); refine wl_ld1 (v := .int .i64 x.f.t) rfl rfl rfl k1 Try.underlying2 rfl rfl ?_)
      | ((with_reducible refine at_slot 29 ?_); refine wl_ld1 (v := .int .i64 x.l.t) rfl rfl rfl k1 Try.underlying2 rfl rfl ?_)
      | ((with_reducible refine at_slot 34 ?_); refine wl_ld1 (v := .int .i64 x.n) rfl rfl rfl k1 Try.underlying2 rfl rfl ?_)
      | ((with_reducible refine at_slot 37 ?_); refine wl_ld1 (v := .int .i64 x.l.t) rfl rfl rfl k1 Try.underlying2 rfl rfl ?_)
      | ((with_reducible refine at_slot 40 ?_); refine wl_ld1 (v := .int .i64 x.f.t) rfl rfl rfl k1 Try.underlying2 rfl rfl ?_))
  go_ret
  exact ⟨rfl, HB.out⟩
set_option maxHeartbeats 4000000 in
set_option maxRecDepth 100000 in
theorem rc_b {x : Ce} (hi : CeIn x) (hz : ¬ x = zeroCe) (h : ¬ x.n < 1) (hf : ¬ EvOk x.f) (w : World) :
    Calls Try.prog 14 #[.agg (ceA x)] w fun e w' => e = .returned (.int .i64 2) ∧ Below w.heap.size w w' := by
  have q0 := hi.n0; have q1 := hi.n1; have q2 := hi.r0; have q3 := hi.r1; have q4 := hi.g0; have q5 := hi.g1; have q6 := hi.s0; have q7 := hi.s1
  have d1 : decide (x.n < 1) = false := by simp <;> omega
  have HZ := Lib.hid hz
  have HF := Lib.hid hf
  have HI := Lib.hid hi
  clear hz hf hi
  have HB := Lib.hid (Below.refl w.heap.size w)
  go_enter Try.func14, Try.ntmps14
  go_wp2_with (first
      | ((with_reducible refine at_slot 1 ?_); refine wl_box (A := (ceA x)) rfl rfl rfl ?_; intro W1 g1 k1 hb hle; have L1 := Lib.hid (Nat.le_trans HB.out.size hle); replace HB := Lib.hid (below_tr HB.out hb); clear hb hle)
      | ((with_reducible refine at_slot 5 ?_); refine wl_ld0 rfl rfl rfl k1 Try.underlying28 rfl ceInfo ?_)
      | ((with_reducible refine at_slot 6 ?_); refine wl_build (v := .agg (ceA zeroCe)) rfl rfl (build_ce0 _) rfl ?_)
      | ((with_reducible refine at_slot 7 ?_); refine wl_bin (v := .bool false) rfl rfl (run_eqGuard_agg _ _ _ _ _ _ _ (by kernel_rfl)) (ce_eql_no HZ.out _) ?_)
      | ((with_reducible refine at_slot 9 ?_); refine wl_ld1 (v := .int .i64 x.n) rfl rfl rfl k1 Try.underlying2 rfl rfl ?_)
      | ((with_reducible refine at_slot 13 ?_); refine wl_ld (evA x.f) rfl rfl rfl k1 Try.underlying24 rfl evInfo (ceA_pf x) ?_)
      | ((with_reducible refine at_slot 14 ?_); refine wl_call rfl rfl Try.func27 (by kernel_rfl) rfl (rev_no HI.out.f HF.out _) rfl ?_; intro V1 hb; replace k1 := k1.keep hb; replace HB := Lib.hid (below_tr HB.out hb); clear hb)
      | ((with_reducible refine at_slot 19 ?_); refine wl_ld (evA x.l) rfl rfl rfl k1 Try.underlying24 rfl evInfo (ceA_pl x) ?_)
      | ((with_reducible refine at_slot 26 ?_); refine wl_ld1 (v := .int .i64 x.f.t) rfl rfl rfl k1 Try.underlying2 rfl rfl ?_)
      | ((with_reducible refine at_slot 29 ?_); refine wl_ld1 (v := .int .i64 x.l.t) rfl rfl rfl k1 Try.underlying2 rfl rfl ?_)
      | ((with_reducible refine at_slot 34 ?_); refine wl_ld1 (v := .int .i64 x.n) rfl rfl rfl k1 Try.underlying2 rfl rfl ?_)
      | ((with_reducible refine at_slot 37 ?_); refine wl_ld1 (v := .int .i64 x.l.t) rfl rfl rfl k1 Try.underlying2 rfl rfl ?_)
      | ((with_reducible refine at_slot 40 ?_); refine wl_ld1 (v := .int .i64 x.f.t) rfl rfl rfl k1 Try.underlying2 rfl rfl ?_))
  go_ret
  exact ⟨rfl, HB.out⟩
set_option maxHeartbeats 4000000 in
set_option maxRecDepth 100000 in
theorem rc_c {x : Ce} (hi : CeIn x) (hz : ¬ x = zeroCe) (h : ¬ x.n < 1) (hf : EvOk x.f) (hl : ¬ EvOk x.l) (w : World) :
    Calls Try.prog 14 #[.agg (ceA x)] w fun e w' => e = .returned (.int .i64 2) ∧ Below w.heap.size w w' := by
  have q0 := hi.n0; have q1 := hi.n1; have q2 := hi.r0; have q3 := hi.r1; have q4 := hi.g0; have q5 := hi.g1; have q6 := hi.s0; have q7 := hi.s1
  have d1 : decide (x.n < 1) = false := by simp <;> omega
  have HZ := Lib.hid hz
  have HF := Lib.hid hf
  have HL := Lib.hid hl
  have HI := Lib.hid hi
  clear hz hf hl hi
  have HB := Lib.hid (Below.refl w.heap.size w)
  go_enter Try.func14, Try.ntmps14
  go_wp2_with (first
      | ((with_reducible refine at_slot 1 ?_); refine wl_box (A := (ceA x)) rfl rfl rfl ?_; intro W1 g1 k1 hb hle; have L1 := Lib.hid (Nat.le_trans HB.out.size hle); replace HB := Lib.hid (below_tr HB.out hb); clear hb hle)
      | ((with_reducible refine at_slot 5 ?_); refine wl_ld0 rfl rfl rfl k1 Try.underlying28 rfl ceInfo ?_)
      | ((with_reducible refine at_slot 6 ?_); refine wl_build (v := .agg (ceA zeroCe)) rfl rfl (build_ce0 _) rfl ?_)
      | ((with_reducible refine at_slot 7 ?_); refine wl_bin (v := .bool false) rfl rfl (run_eqGuard_agg _ _ _ _ _ _ _ (by kernel_rfl)) (ce_eql_no HZ.out _) ?_)
      | ((with_reducible refine at_slot 9 ?_); refine wl_ld1 (v := .int .i64 x.n) rfl rfl rfl k1 Try.underlying2 rfl rfl ?_)
      | ((with_reducible refine at_slot 13 ?_); refine wl_ld (evA x.f) rfl rfl rfl k1 Try.underlying24 rfl evInfo (ceA_pf x) ?_)
      | ((with_reducible refine at_slot 14 ?_); refine wl_call rfl rfl Try.func27 (by kernel_rfl) rfl (rev_yes HF.out _) rfl ?_; intro V1 hb; replace k1 := k1.keep hb; replace HB := Lib.hid (below_tr HB.out hb); clear hb)
      | ((with_reducible refine at_slot 19 ?_); refine wl_ld (evA x.l) rfl rfl rfl k1 Try.underlying24 rfl evInfo (ceA_pl x) ?_)
      | ((with_reducible refine at_slot 20 ?_); refine wl_call rfl rfl Try.func27 (by kernel_rfl) rfl (rev_no HI.out.l HL.out _) rfl ?_; intro V2 hb; replace k1 := k1.keep hb; replace HB := Lib.hid (below_tr HB.out hb); clear hb)
      | ((with_reducible refine at_slot 26 ?_); refine wl_ld1 (v := .int .i64 x.f.t) rfl rfl rfl k1 Try.underlying2 rfl rfl ?_)
      | ((with_reducible refine at_slot 29 ?_); refine wl_ld1 (v := .int .i64 x.l.t) rfl rfl rfl k1 Try.underlying2 rfl rfl ?_)
      | ((with_reducible refine at_slot 34 ?_); refine wl_ld1 (v := .int .i64 x.n) rfl rfl rfl k1 Try.underlying2 rfl rfl ?_)
      | ((with_reducible refine at_slot 37 ?_); refine wl_ld1 (v := .int .i64 x.l.t) rfl rfl rfl k1 Try.underlying2 rfl rfl ?_)
      | ((with_reducible refine at_slot 40 ?_); refine wl_ld1 (v := .int .i64 x.f.t) rfl rfl rfl k1 Try.underlying2 rfl rfl ?_))
  go_ret
  exact ⟨rfl, HB.out⟩
set_option maxHeartbeats 4000000 in
set_option maxRecDepth 100000 in
theorem rc_d {x : Ce} (hi : CeIn x) (hz : ¬ x = zeroCe) (h : ¬ x.n < 1) (hf : EvOk x.f) (hl : EvOk x.l) (h2 : x.l.t < x.f.t) (w : World) :
    Calls Try.prog 14 #[.agg (ceA x)] w fun e w' => e = .returned (.int .i64 2) ∧ Below w.heap.size w w' := by
  have q0 := hi.n0; have q1 := hi.n1; have q2 := hi.r0; have q3 := hi.r1; have q4 := hi.g0; have q5 := hi.g1; have q6 := hi.s0; have q7 := hi.s1
  have d1 : decide (x.n < 1) = false := by simp <;> omega
  have u1 := hf.t0; have u2 := hf.t1; have u3 := hl.t0; have u4 := hl.t1
  have i1 : IntKind.i64.wrap (x.l.t - x.f.t) = x.l.t - x.f.t := by rw [IntKind.wrap_i64]; omega
  have i2 : IntKind.i64.wrap (x.l.t - x.f.t + 1) = x.l.t - x.f.t + 1 := by rw [IntKind.wrap_i64]; omega
  have d2 : decide (x.l.t < x.f.t) = true := by simp <;> omega
  have HZ := Lib.hid hz
  have HF := Lib.hid hf
  have HL := Lib.hid hl
  have HI := Lib.hid hi
  clear hz hf hl hi
  have HB := Lib.hid (Below.refl w.heap.size w)
  go_enter Try.func14, Try.ntmps14
  go_wp2_with (first
      | ((with_reducible refine at_slot 1 ?_); refine wl_box (A := (ceA x)) rfl rfl rfl ?_; intro W1 g1 k1 hb hle; have L1 := Lib.hid (Nat.le_trans HB.out.size hle); replace HB := Lib.hid (below_tr HB.out hb); clear hb hle)
      | ((with_reducible refine at_slot 5 ?_); refine wl_ld0 rfl rfl rfl k1 Try.underlying28 rfl ceInfo ?_)
      | ((with_reducible refine at_slot 6 ?_); refine wl_build (v := .agg (ceA zeroCe)) rfl rfl (build_ce0 _) rfl ?_)
      | ((with_reducible refine at_slot 7 ?_); refine wl_bin (v := .bool false) rfl rfl (run_eqGuard_agg _ _ _ _ _ _ _ (by kernel_rfl)) (ce_eql_no HZ.out _) ?_)
      | ((with_reducible refine at_slot 9 ?_); refine wl_ld1 (v := .int .i64 x.n) rfl rfl rfl k1 Try.underlying2 rfl rfl ?_)
      | ((with_reducible refine at_slot 13 ?_); refine wl_ld (evA x.f) rfl rfl rfl k1 Try.underlying24 rfl evInfo (ceA_pf x) ?_)
      | ((with_reducible refine at_slot 14 ?_); refine wl_call rfl rfl Try.func27 (by kernel_rfl) rfl (rev_yes HF.out _) rfl ?_; intro V1 hb; replace k1 := k1.keep hb; replace HB := Lib.hid (below_tr HB.out hb); clear hb)
      | ((with_reducible refine at_slot 19 ?_); refine wl_ld (evA x.l) rfl rfl rfl k1 Try.underlying24 rfl evInfo (ceA_pl x) ?_)
      | ((with_reducible refine at_slot 20 ?_); refine wl_call rfl rfl Try.func27 (by kernel_rfl) rfl (rev_yes HL.out _) rfl ?_; intro V2 hb; replace k1 := k1.keep hb; replace HB := Lib.hid (below_tr HB.out hb); clear hb)
      | ((with_reducible refine at_slot 26 ?_); refine wl_ld1 (v := .int .i64 x.f.t) rfl rfl rfl k1 Try.underlying2 rfl rfl ?_)
      | ((with_reducible refine at_slot 29 ?_); refine wl_ld1 (v := .int .i64 x.l.t) rfl rfl rfl k1 Try.underlying2 rfl rfl ?_)
      | ((with_reducible refine at_slot 34 ?_); refine wl_ld1 (v := .int .i64 x.n) rfl rfl rfl k1 Try.underlying2 rfl rfl ?_)
      | ((with_reducible refine at_slot 37 ?_); refine wl_ld1 (v := .int .i64 x.l.t) rfl rfl rfl k1 Try.underlying2 rfl rfl ?_)
      | ((with_reducible refine at_slot 40 ?_); refine wl_ld1 (v := .int .i64 x.f.t) rfl rfl rfl k1 Try.underlying2 rfl rfl ?_))
  go_ret
  exact ⟨rfl, HB.out⟩
set_option maxHeartbeats 4000000 in
set_option maxRecDepth 100000 in
theorem rc_e {x : Ce} (hi : CeIn x) (hz : ¬ x = zeroCe) (h : ¬ x.n < 1) (hf : EvOk x.f) (hl : EvOk x.l) (h2 : ¬ x.l.t < x.f.t) (h3 : x.l.t - x.f.t + 1 < x.n) (w : World) :
    Calls Try.prog 14 #[.agg (ceA x)] w fun e w' => e = .returned (.int .i64 2) ∧ Below w.heap.size w w' := by
  have q0 := hi.n0; have q1 := hi.n1; have q2 := hi.r0; have q3 := hi.r1; have q4 := hi.g0; have q5 := hi.g1; have q6 := hi.s0; have q7 := hi.s1
  have d1 : decide (x.n < 1) = false := by simp <;> omega
  have u1 := hf.t0; have u2 := hf.t1; have u3 := hl.t0; have u4 := hl.t1
  have i1 : IntKind.i64.wrap (x.l.t - x.f.t) = x.l.t - x.f.t := by rw [IntKind.wrap_i64]; omega
  have i2 : IntKind.i64.wrap (x.l.t - x.f.t + 1) = x.l.t - x.f.t + 1 := by rw [IntKind.wrap_i64]; omega
  have d2 : decide (x.l.t < x.f.t) = false := by simp <;> omega
  have d3 : decide (x.l.t - x.f.t + 1 < x.n) = true := by simp <;> omega
  have HZ := Lib.hid hz
  have HF := Lib.hid hf
  have HL := Lib.hid hl
  have HI := Lib.hid hi
  clear hz hf hl hi
  have HB := Lib.hid (Below.refl w.heap.size w)
  go_enter Try.func14, Try.ntmps14
  go_wp2_with (first
      | ((with_reducible refine at_slot 1 ?_); refine wl_box (A := (ceA x)) rfl rfl rfl ?_; intro W1 g1 k1 hb hle; have L1 := Lib.hid (Nat.le_trans HB.out.size hle); replace HB := Lib.hid (below_tr HB.out hb); clear hb hle)
      | ((with_reducible refine at_slot 5 ?_); refine wl_ld0 rfl rfl rfl k1 Try.underlying28 rfl ceInfo ?_)
      | ((with_reducible refine at_slot 6 ?_); refine wl_build (v := .agg (ceA zeroCe)) rfl rfl (build_ce0 _) rfl ?_)
      | ((with_reducible refine at_slot 7 ?_); refine wl_bin (v := .bool false) rfl rfl (run_eqGuard_agg _ _ _ _ _ _ _ (by kernel_rfl)) (ce_eql_no HZ.out _) ?_)
      | ((with_reducible refine at_slot 9 ?_); refine wl_ld1 (v := .int .i64 x.n) rfl rfl rfl k1 Try.underlying2 rfl rfl ?_)
      | ((with_reducible refine at_slot 13 ?_); refine wl_ld (evA x.f) rfl rfl rfl k1 Try.underlying24 rfl evInfo (ceA_pf x) ?_)
      | ((with_reducible refine at_slot 14 ?_); refine wl_call rfl rfl Try.func27 (by kernel_rfl) rfl (rev_yes HF.out _) rfl ?_; intro V1 hb; replace k1 := k1.keep hb; replace HB := Lib.hid (below_tr HB.out hb); clear hb)
      | ((with_reducible refine at_slot 19 ?_); refine wl_ld (evA x.l) rfl rfl rfl k1 Try.underlying24 rfl evInfo (ceA_pl x) ?_)
      | ((with_reducible refine at_slot 20 ?_); refine wl_call rfl rfl Try.func27 (by kernel_rfl) rfl (rev_yes HL.out _) rfl ?_; intro V2 hb; replace k1 := k1.keep hb; replace HB := Lib.hid (below_tr HB.out hb); clear hb)
      | ((with_reducible refine at_slot 26 ?_); refine wl_ld1 (v := .int .i64 x.f.t) rfl rfl rfl k1 Try.underlying2 rfl rfl ?_)
      | ((with_reducible refine at_slot 29 ?_); refine wl_ld1 (v := .int .i64 x.l.t) rfl rfl rfl k1 Try.underlying2 rfl rfl ?_)
      | ((with_reducible refine at_slot 34 ?_); refine wl_ld1 (v := .int .i64 x.n) rfl rfl rfl k1 Try.underlying2 rfl rfl ?_)
      | ((with_reducible refine at_slot 37 ?_); refine wl_ld1 (v := .int .i64 x.l.t) rfl rfl rfl k1 Try.underlying2 rfl rfl ?_)
      | ((with_reducible refine at_slot 40 ?_); refine wl_ld1 (v := .int .i64 x.f.t) rfl rfl rfl k1 Try.underlying2 rfl rfl ?_))
  go_ret
  exact ⟨rfl, HB.out⟩
set_option maxHeartbeats 4000000 in
set_option maxRecDepth 100000 in
theorem rc_f {x : Ce} (hi : CeIn x) (hz : ¬ x = zeroCe) (_h : ¬ x.n < 1) (hf : EvOk x.f) (hl : EvOk x.l) (h2 : ¬ x.l.t < x.f.t) (h3 : ¬ x.l.t - x.f.t + 1 < x.n) (h4 : x.n = 1) (h5 : ¬ x.f = x.l) (w : World) :
    Calls Try.prog 14 #[.agg (ceA x)] w fun e w' => e = .returned (.int .i64 2) ∧ Below w.heap.size w w' := by
  have q0 := hi.n0; have q1 := hi.n1; have q2 := hi.r0; have q3 := hi.r1; have q4 := hi.g0; have q5 := hi.g1; have q6 := hi.s0; have q7 := hi.s1
  have d1 : decide (x.n < 1) = false := by simp <;> omega
  have u1 := hf.t0; have u2 := hf.t1; have u3 := hl.t0; have u4 := hl.t1
  have i1 : IntKind.i64.wrap (x.l.t - x.f.t) = x.l.t - x.f.t := by rw [IntKind.wrap_i64]; omega
  have i2 : IntKind.i64.wrap (x.l.t - x.f.t + 1) = x.l.t - x.f.t + 1 := by rw [IntKind.wrap_i64]; omega
  have d2 : decide (x.l.t < x.f.t) = false := by simp <;> omega
  have d3 : decide (x.l.t - x.f.t + 1 < x.n) = false := by simp <;> omega
  have d4 : (x.n == 1) = true := by simp <;> omega
  have d5 : decide (1 < x.n) = false := by simp <;> omega
  have HZ := Lib.hid hz
  have HF := Lib.hid hf
  have HL := Lib.hid hl
  have H5 := Lib.hid h5
  have HI := Lib.hid hi
  clear hz hf hl h5 hi
  have HB := Lib.hid (Below.refl w.heap.size w)
  go_enter Try.func14, Try.ntmps14
  go_wp2_with (first
      | ((with_reducible refine at_slot 1 ?_); refine wl_box (A := (ceA x)) rfl rfl rfl ?_; intro W1 g1 k1 hb hle; have L1 := Lib.hid (Nat.le_trans HB.out.size hle); replace HB := Lib.hid (below_tr HB.out hb); clear hb hle)
      | ((with_reducible refine at_slot 5 ?_); refine wl_ld0 rfl rfl rfl k1 Try.underlying28 rfl ceInfo ?_)
      | ((with_reducible refine at_slot 6 ?_); refine wl_build (v := .agg (ceA zeroCe)) rfl rfl (build_ce0 _) rfl ?_)
      | ((with_reducible refine at_slot 7 ?_); refine wl_bin (v := .bool false) rfl rfl (run_eqGuard_agg _ _ _ _ _ _ _ (by kernel_rfl)) (ce_eql_no HZ.out _) ?_)
      | ((with_reducible refine at_slot 9 ?_); refine wl_ld1 (v := .int .i64 x.n) rfl rfl rfl k1 Try.underlying2 rfl rfl ?_)
      | ((with_reducible refine at_slot 13 ?_); refine wl_ld (evA x.f) rfl rfl rfl k1 Try.underlying24 rfl evInfo (ceA_pf x) ?_)
      | ((with_reducible refine at_slot 14 ?_); refine wl_call rfl rfl Try.func27 (by kernel_rfl) rfl (rev_yes HF.out _) rfl ?_; intro V1 hb; replace k1 := k1.keep hb; replace HB := Lib.hid (below_tr HB.out hb); clear hb)
      | ((with_reducible refine at_slot 19 ?_); refine wl_ld (evA x.l) rfl rfl rfl k1 Try.underlying24 rfl evInfo (ceA_pl x) ?_)
      | ((with_reducible refine at_slot 20 ?_); refine wl_call rfl rfl Try.func27 (by kernel_rfl) rfl (rev_yes HL.out _) rfl ?_; intro V2 hb; replace k1 := k1.keep hb; replace HB := Lib.hid (below_tr HB.out hb); clear hb)
      | ((with_reducible refine at_slot 26 ?_); refine wl_ld1 (v := .int .i64 x.f.t) rfl rfl rfl k1 Try.underlying2 rfl rfl ?_)
      | ((with_reducible refine at_slot 29 ?_); refine wl_ld1 (v := .int .i64 x.l.t) rfl rfl rfl k1 Try.underlying2 rfl rfl ?_)
      | ((with_reducible refine at_slot 34 ?_); refine wl_ld1 (v := .int .i64 x.n) rfl rfl rfl k1 Try.underlying2 rfl rfl ?_)
      | ((with_reducible refine at_slot 37 ?_); refine wl_ld1 (v := .int .i64 x.l.t) rfl rfl rfl k1 Try.underlying2 rfl rfl ?_)
      | ((with_reducible refine at_slot 40 ?_); refine wl_ld1 (v := .int .i64 x.f.t) rfl rfl rfl k1 Try.underlying2 rfl rfl ?_)
      | ((with_reducible refine at_slot 46 ?_); refine wl_ld1 (v := .int .i64 x.n) rfl rfl rfl k1 Try.underlying2 rfl rfl ?_)
      | ((with_reducible refine at_slot 50 ?_); refine wl_ld (evA x.f) rfl rfl rfl k1 Try.underlying24 rfl evInfo (ceA_pf x) ?_)
      | ((with_reducible refine at_slot 52 ?_); refine wl_ld (evA x.l) rfl rfl rfl k1 Try.underlying24 rfl evInfo (ceA_pl x) ?_)
      | ((with_reducible refine at_slot 53 ?_); refine wl_bin (v := .bool true) rfl rfl (run_eqGuard_agg _ _ _ _ _ _ _ (by kernel_rfl)) (ev_neq_no H5.out _) ?_)
      | ((with_reducible refine at_slot 57 ?_); refine wl_ld1 (v := .int .i64 x.n) rfl rfl rfl k1 Try.underlying2 rfl rfl ?_)
      | ((with_reducible refine at_slot 62 ?_); refine wl_ld1 (v := .int .i64 x.f.t) rfl rfl rfl k1 Try.underlying2 rfl rfl ?_)
      | ((with_reducible refine at_slot 65 ?_); refine wl_ld1 (v := .int .i64 x.l.t) rfl rfl rfl k1 Try.underlying2 rfl rfl ?_))
  go_ret
  exact ⟨rfl, HB.out⟩
set_option maxHeartbeats 4000000 in
set_option maxRecDepth 100000 in
theorem rc_h01 {x : Ce} (hi : CeIn x) (hz : ¬ x = zeroCe) (h : ¬ x.n < 1) (hf : EvOk x.f) (hl : EvOk x.l) (h2 : ¬ x.l.t < x.f.t) (h3 : ¬ x.l.t - x.f.t + 1 < x.n) (h4 : x.n = 1) (h5 : x.f = x.l) (t0 : x.r < 0) (w : World) :
    Calls Try.prog 14 #[.agg (ceA x)] w fun e w' => e = .returned (.int .i64 2) ∧ Below w.heap.size w w' := by
  have q0 := hi.n0; have q1 := hi.n1; have q2 := hi.r0; have q3 := hi.r1; have q4 := hi.g0; have q5 := hi.g1; have q6 := hi.s0; have q7 := hi.s1
  have d1 : decide (x.n < 1) = false := by simp <;> omega
  have u1 := hf.t0; have u2 := hf.t1; have u3 := hl.t0; have u4 := hl.t1
  have i1 : IntKind.i64.wrap (x.l.t - x.f.t) = x.l.t - x.f.t := by rw [IntKind.wrap_i64]; omega
  have i2 : IntKind.i64.wrap (x.l.t - x.f.t + 1) = x.l.t - x.f.t + 1 := by rw [IntKind.wrap_i64]; omega
  have d2 : decide (x.l.t < x.f.t) = false := by simp <;> omega
  have d3 : decide (x.l.t - x.f.t + 1 < x.n) = false := by simp <;> omega
  have d4 : (x.n == 1) = true := by simp <;> omega
  have d5 : decide (1 < x.n) = false := by simp <;> omega
  have d10 : decide (x.r < 0) = true := by simp <;> omega
  have HZ := Lib.hid hz
  have HF := Lib.hid hf
  have HL := Lib.hid hl
  have H5 := Lib.hid h5
  have H4 := Lib.hid h4
  have HI := Lib.hid hi
  clear hz hf hl h5 h4 hi
  have HB := Lib.hid (Below.refl w.heap.size w)
  go_enter Try.func14, Try.ntmps14
  go_wp2_with (first
      | ((with_reducible refine at_slot 1 ?_); refine wl_box (A := (ceA x)) rfl rfl rfl ?_; intro W1 g1 k1 hb hle; have L1 := Lib.hid (Nat.le_trans HB.out.size hle); replace HB := Lib.hid (below_tr HB.out hb); clear hb hle)
      | ((with_reducible refine at_slot 5 ?_); refine wl_ld0 rfl rfl rfl k1 Try.underlying28 rfl ceInfo ?_)
      | ((with_reducible refine at_slot 6 ?_); refine wl_build (v := .agg (ceA zeroCe)) rfl rfl (build_ce0 _) rfl ?_)
      | ((with_reducible refine at_slot 7 ?_); refine wl_bin (v := .bool false) rfl rfl (run_eqGuard_agg _ _ _ _ _ _ _ (by kernel_rfl)) (ce_eql_no HZ.out _) ?_)
      | ((with_reducible refine at_slot 9 ?_); refine wl_ld1 (v := .int .i64 x.n) rfl rfl rfl k1 Try.underlying2 rfl rfl ?_)
      | ((with_reducible refine at_slot 13 ?_); refine wl_ld (evA x.f) rfl rfl rfl k1 Try.underlying24 rfl evInfo (ceA_pf x) ?_)
      | ((with_reducible refine at_slot 14 ?_); refine wl_call rfl rfl Try.func27 (by kernel_rfl) rfl (rev_yes HF.out _) rfl ?_; intro V1 hb; replace k1 := k1.keep hb; replace HB := Lib.hid (below_tr HB.out hb); clear hb)
      | ((with_reducible refine at_slot 19 ?_); refine wl_ld (evA x.l) rfl rfl rfl k1 Try.underlying24 rfl evInfo (ceA_pl x) ?_)
      | ((with_reducible refine at_slot 20 ?_); refine wl_call rfl rfl Try.func27 (by kernel_rfl) rfl (rev_yes HL.out _) rfl ?_; intro V2 hb; replace k1 := k1.keep hb; replace HB := Lib.hid (below_tr HB.out hb); clear hb)
      | ((with_reducible refine at_slot 26 ?_); refine wl_ld1 (v := .int .i64 x.f.t) rfl rfl rfl k1 Try.underlying2 rfl rfl ?_)
      | ((with_reducible refine at_slot 29 ?_); refine wl_ld1 (v := .int .i64 x.l.t) rfl rfl rfl k1 Try.underlying2 rfl rfl ?_)
      | ((with_reducible refine at_slot 34 ?_); refine wl_ld1 (v := .int .i64 x.n) rfl rfl rfl k1 Try.underlying2 rfl rfl ?_)
      | ((with_reducible refine at_slot 37 ?_); refine wl_ld1 (v := .int .i64 x.l.t) rfl rfl rfl k1 Try.underlying2 rfl rfl ?_)
      | ((with_reducible refine at_slot 40 ?_); refine wl_ld1 (v := .int .i64 x.f.t) rfl rfl rfl k1 Try.underlying2 rfl rfl ?_)
      | ((with_reducible refine at_slot 46 ?_); refine wl_ld1 (v := .int .i64 x.n) rfl rfl rfl k1 Try.underlying2 rfl rfl ?_)
      | ((with_reducible refine at_slot 50 ?_); refine wl_ld (evA x.f) rfl rfl rfl k1 Try.underlying24 rfl evInfo (ceA_pf x) ?_)
      | ((with_reducible refine at_slot 52 ?_); refine wl_ld (evA x.l) rfl rfl rfl k1 Try.underlying24 rfl evInfo (ceA_pl x) ?_)
      | ((with_reducible refine at_slot 53 ?_); refine wl_bin (v := .bool false) rfl rfl (run_eqGuard_agg _ _ _ _ _ _ _ (by kernel_rfl)) (ev_neq_yes H5.out _) ?_)
      | ((with_reducible refine at_slot 57 ?_); refine wl_ld1 (v := .int .i64 x.n) rfl rfl rfl k1 Try.underlying2 rfl rfl ?_)
      | ((with_reducible refine at_slot 62 ?_); refine wl_ld1 (v := .int .i64 x.f.t) rfl rfl rfl k1 Try.underlying2 rfl rfl ?_)
      | ((with_reducible refine at_slot 65 ?_); refine wl_ld1 (v := .int .i64 x.l.t) rfl rfl rfl k1 Try.underlying2 rfl rfl ?_)
      | ((with_reducible refine at_slot 70 ?_); refine wl_ld1 (v := .int .i64 x.r) rfl rfl rfl k1 Try.underlying2 rfl rfl ?_)
      | ((with_reducible refine at_slot 74 ?_); refine wl_ld1 (v := .int .i64 x.g) rfl rfl rfl k1 Try.underlying2 rfl rfl ?_)
      | ((with_reducible refine at_slot 79 ?_); refine wl_ld1 (v := .int .i64 x.s) rfl rfl rfl k1 Try.underlying2 rfl rfl ?_)
      | ((with_reducible refine at_slot 84 ?_); refine wl_ld1 (v := .int .i64 x.r) rfl rfl rfl k1 Try.underlying2 rfl rfl ?_)
      | ((with_reducible refine at_slot 86 ?_); refine wl_ld1 (v := .int .i64 x.n) rfl rfl rfl k1 Try.underlying2 rfl rfl ?_)
      | ((with_reducible refine at_slot 91 ?_); refine wl_ld1 (v := .int .i64 x.g) rfl rfl rfl k1 Try.underlying2 rfl rfl ?_)
      | ((with_reducible refine at_slot 93 ?_); refine wl_ld1 (v := .int .i64 x.n) rfl rfl rfl k1 Try.underlying2 rfl rfl ?_)
      | ((with_reducible refine at_slot 98 ?_); refine wl_ld1 (v := .int .i64 x.r) rfl rfl rfl k1 Try.underlying2 rfl rfl ?_)
      | ((with_reducible refine at_slot 100 ?_); refine wl_ld1 (v := .int .i64 x.g) rfl rfl rfl k1 Try.underlying2 rfl rfl ?_)
      | ((with_reducible refine at_slot 103 ?_); refine wl_ld1 (v := .int .i64 x.n) rfl rfl rfl k1 Try.underlying2 rfl rfl ?_)
      | ((with_reducible refine at_slot 108 ?_); refine wl_ld1 (v := .int .i64 x.s) rfl rfl rfl k1 Try.underlying2 rfl rfl ?_)
      | ((with_reducible refine at_slot 111 ?_); refine wl_ld1 (v := .int .i64 x.l.t) rfl rfl rfl k1 Try.underlying2 rfl rfl ?_)
      | ((with_reducible refine at_slot 114 ?_); refine wl_ld1 (v := .int .i64 x.f.t) rfl rfl rfl k1 Try.underlying2 rfl rfl ?_))
  go_ret
  exact ⟨rfl, HB.out⟩
set_option maxHeartbeats 4000000 in
set_option maxRecDepth 100000 in
theorem rc_h11 {x : Ce} (hi : CeIn x) (hz : ¬ x = zeroCe) (h : ¬ x.n < 1) (hf : EvOk x.f) (hl : EvOk x.l) (h2 : ¬ x.l.t < x.f.t) (h3 : ¬ x.l.t - x.f.t + 1 < x.n) (h4 : x.n = 1) (h5 : x.f = x.l) (t0 : ¬ x.r < 0) (t1 : x.g < 0) (w : World) :
    Calls Try.prog 14 #[.agg (ceA x)] w fun e w' => e = .returned (.int .i64 2) ∧ Below w.heap.size w w' := by
  have q0 := hi.n0; have q1 := hi.n1; have q2 := hi.r0; have q3 := hi.r1; have q4 := hi.g0; have q5 := hi.g1; have q6 := hi.s0; have q7 := hi.s1
  have d1 : decide (x.n < 1) = false := by simp <;> omega
  have u1 := hf.t0; have u2 := hf.t1; have u3 := hl.t0; have u4 := hl.t1
  have i1 : IntKind.i64.wrap (x.l.t - x.f.t) = x.l.t - x.f.t := by rw [IntKind.wrap_i64]; omega
  have i2 : IntKind.i64.wrap (x.l.t - x.f.t + 1) = x.l.t - x.f.t + 1 := by rw [IntKind.wrap_i64]; omega
  have d2 : decide (x.l.t < x.f.t) = false := by simp <;> omega
  have d3 : decide (x.l.t - x.f.t + 1 < x.n) = false := by simp <;> omega
  have d4 : (x.n == 1) = true := by simp <;> omega
  have d5 : decide (1 < x.n) = false := by simp <;> omega
  have d10 : decide (x.r < 0) = false := by simp <;> omega
  have d11 : decide (x.g < 0) = true := by simp <;> omega
  have HZ := Lib.hid hz
  have HF := Lib.hid hf
  have HL := Lib.hid hl
  have H5 := Lib.hid h5
  have H4 := Lib.hid h4
  have HI := Lib.hid hi
  clear hz hf hl h5 h4 hi
  have HB := Lib.hid (Below.refl w.heap.size w)
  go_enter Try.func14, Try.ntmps14
  go_wp2_with (first
      | ((with_reducible refine at_slot 1 ?_); refine wl_box (A := (ceA x)) rfl rfl rfl ?_; intro W1 g1 k1 hb hle; have L1 := Lib.hid (Nat.le_trans HB.out.size hle); replace HB := Lib.hid (below_tr HB.out hb); clear hb hle)
      | ((with_reducible refine at_slot 5 ?_); refine wl_ld0 rfl rfl rfl k1 Try.underlying28 rfl ceInfo ?_)
      | ((with_reducible refine at_slot 6 ?_); refine wl_build (v := .agg (ceA zeroCe)) rfl rfl (build_ce0 _) rfl ?_)
      | ((with_reducible refine at_slot 7 ?_); refine wl_bin (v := .bool false) rfl rfl (run_eqGuard_agg _ _ _ _ _ _ _ (by kernel_rfl)) (ce_eql_no HZ.out _) ?_)
      | ((with_reducible refine at_slot 9 ?_); refine wl_ld1 (v := .int .i64 x.n) rfl rfl rfl k1 Try.underlying2 rfl rfl ?_)
      | ((with_reducible refine at_slot 13 ?_); refine wl_ld (evA x.f) rfl rfl rfl k1 Try.underlying24 rfl evInfo (ceA_pf x) ?_)
      | ((with_reducible refine at_slot 14 ?_); refine wl_call rfl rfl Try.func27 (by kernel_rfl) rfl (rev_yes HF.out _) rfl ?_; intro V1 hb; replace k1 := k1.keep hb; replace HB := Lib.hid (below_tr HB.out hb); clear hb)
      | ((with_reducible refine at_slot 19 ?_); refine wl_ld (evA x.l) rfl rfl rfl k1 Try.underlying24 rfl evInfo (ceA_pl x) ?_)
      | ((with_reducible refine at_slot 20 ?_); refine wl_call rfl rfl Try.func27 (by kernel_rfl) rfl (rev_yes HL.out _) rfl ?_; intro V2 hb; replace k1 := k1.keep hb; replace HB := Lib.hid (below_tr HB.out hb); clear hb)
      | ((with_reducible refine at_slot 26 ?_); refine wl_ld1 (v := .int .i64 x.f.t) rfl rfl rfl k1 Try.underlying2 rfl rfl ?_)
      | ((with_reducible refine at_slot 29 ?_); refine wl_ld1 (v := .int .i64 x.l.t) rfl rfl rfl k1 Try.underlying2 rfl rfl ?_)
      | ((with_reducible refine at_slot 34 ?_); refine wl_ld1 (v := .int .i64 x.n) rfl rfl rfl k1 Try.underlying2 rfl rfl ?_)
      | ((with_reducible refine at_slot 37 ?_); refine wl_ld1 (v := .int .i64 x.l.t) rfl rfl rfl k1 Try.underlying2 rfl rfl ?_)
      | ((with_reducible refine at_slot 40 ?_); refine wl_ld1 (v := .int .i64 x.f.t) rfl rfl rfl k1 Try.underlying2 rfl rfl ?_)
      | ((with_reducible refine at_slot 46 ?_); refine wl_ld1 (v := .int .i64 x.n) rfl rfl rfl k1 Try.underlying2 rfl rfl ?_)
      | ((with_reducible refine at_slot 50 ?_); refine wl_ld (evA x.f) rfl rfl rfl k1 Try.underlying24 rfl evInfo (ceA_pf x) ?_)
      | ((with_reducible refine at_slot 52 ?_); refine wl_ld (evA x.l) rfl rfl rfl k1 Try.underlying24 rfl evInfo (ceA_pl x) ?_)
      | ((with_reducible refine at_slot 53 ?_); refine wl_bin (v := .bool false) rfl rfl (run_eqGuard_agg _ _ _ _ _ _ _ (by kernel_rfl)) (ev_neq_yes H5.out _) ?_)
      | ((with_reducible refine at_slot 57 ?_); refine wl_ld1 (v := .int .i64 x.n) rfl rfl rfl k1 Try.underlying2 rfl rfl ?_)
      | ((with_reducible refine at_slot 62 ?_); refine wl_ld1 (v := .int .i64 x.f.t) rfl rfl rfl k1 Try.underlying2 rfl rfl ?_)
      | ((with_reducible refine at_slot 65 ?_); refine wl_ld1 (v := .int .i64 x.l.t) rfl rfl rfl k1 Try.underlying2 rfl rfl ?_)
      | ((with_reducible refine at_slot 70 ?_); refine wl_ld1 (v := .int .i64 x.r) rfl rfl rfl k1 Try.underlying2 rfl rfl ?_)
      | ((with_reducible refine at_slot 74 ?_); refine wl_ld1 (v := .int .i64 x.g) rfl rfl rfl k1 Try.underlying2 rfl rfl ?_)
      | ((with_reducible refine at_slot 79 ?_); refine wl_ld1 (v := .int .i64 x.s) rfl rfl rfl k1 Try.underlying2 rfl rfl ?_)
      | ((with_reducible refine at_slot 84 ?_); refine wl_ld1 (v := .int .i64 x.r) rfl rfl rfl k1 Try.underlying2 rfl rfl ?_)
      | ((with_reducible refine at_slot 86 ?_); refine wl_ld1 (v := .int .i64 x.n) rfl rfl rfl k1 Try.underlying2 rfl rfl ?_)
      | ((with_reducible refine at_slot 91 ?_); refine wl_ld1 (v := .int .i64 x.g) rfl rfl rfl k1 Try.underlying2 rfl rfl ?_)
      | ((with_reducible refine at_slot 93 ?_); refine wl_ld1 (v := .int .i64 x.n) rfl rfl rfl k1 Try.underlying2 rfl rfl ?_)
      | ((with_reducible refine at_slot 98 ?_); refine wl_ld1 (v := .int .i64 x.r) rfl rfl rfl k1 Try.underlying2 rfl rfl ?_)
      | ((with_reducible refine at_slot 100 ?_); refine wl_ld1 (v := .int .i64 x.g) rfl rfl rfl k1 Try.underlying2 rfl rfl ?_)
      | ((with_reducible refine at_slot 103 ?_); refine wl_ld1 (v := .int .i64 x.n) rfl rfl rfl k1 Try.underlying2 rfl rfl ?_)
      | ((with_reducible refine at_slot 108 ?_); refine wl_ld1 (v := .int .i64 x.s) rfl rfl rfl k1 Try.underlying2 rfl rfl ?_)
      | ((with_reducible refine at_slot 111 ?_); refine wl_ld1 (v := .int .i64 x.l.t) rfl rfl rfl k1 Try.underlying2 rfl rfl ?_)
      | ((with_reducible refine at_slot 114 ?_); refine wl_ld1 (v := .int .i64 x.f.t) rfl rfl rfl k1 Try.underlying2 rfl rfl ?_))
  go_ret
  exact ⟨rfl, HB.out⟩
set_option maxHeartbeats 4000000 in
set_option maxRecDepth 100000 in
theorem rc_h21 {x : Ce} (hi : CeIn x) (hz : ¬ x = zeroCe) (h : ¬ x.n < 1) (hf : EvOk x.f) (hl : EvOk x.l) (h2 : ¬ x.l.t < x.f.t) (h3 : ¬ x.l.t - x.f.t + 1 < x.n) (h4 : x.n = 1) (h5 : x.f = x.l) (t0 : ¬ x.r < 0) (t1 : ¬ x.g < 0) (t2 : x.s < 0) (w : World) :
    Calls Try.prog 14 #[.agg (ceA x)] w fun e w' => e = .returned (.int .i64 2) ∧ Below w.heap.size w w' := by
  have q0 := hi.n0; have q1 := hi.n1; have q2 := hi.r0; have q3 := hi.r1; have q4 := hi.g0; have q5 := hi.g1; have q6 := hi.s0; have q7 := hi.s1
  have d1 : decide (x.n < 1) = false := by simp <;> omega
  have u1 := hf.t0; have u2 := hf.t1; have u3 := hl.t0; have u4 := hl.t1
  have i1 : IntKind.i64.wrap (x.l.t - x.f.t) = x.l.t - x.f.t := by rw [IntKind.wrap_i64]; omega
  have i2 : IntKind.i64.wrap (x.l.t - x.f.t + 1) = x.l.t - x.f.t + 1 := by rw [IntKind.wrap_i64]; omega
  have d2 : decide (x.l.t < x.f.t) = false := by simp <;> omega
  have d3 : decide (x.l.t - x.f.t + 1 < x.n) = false := by simp <;> omega
  have d4 : (x.n == 1) = true := by simp <;> omega
  have d5 : decide (1 < x.n) = false := by simp <;> omega
  have d10 : decide (x.r < 0) = false := by simp <;> omega
  have d11 : decide (x.g < 0) = false := by simp <;> omega
  have d12 : decide (x.s < 0) = true := by simp <;> omega
  have HZ := Lib.hid hz
  have HF := Lib.hid hf
  have HL := Lib.hid hl
  have H5 := Lib.hid h5
  have H4 := Lib.hid h4
  have HI := Lib.hid hi
  clear hz hf hl h5 h4 hi
  have HB := Lib.hid (Below.refl w.heap.size w)
  go_enter Try.func14, Try.ntmps14
  go_wp2_with (first
      | ((with_reducible refine at_slot 1 ?_); refine wl_box (A := (ceA x)) rfl rfl rfl ?_; intro W1 g1 k1 hb hle; have L1 := Lib.hid (Nat.le_trans HB.out.size hle); replace HB := Lib.hid (below_tr HB.out hb); clear hb hle)
      | ((with_reducible refine at_slot 5 ?_); refine wl_ld0 rfl rfl rfl k1 Try.underlying28 rfl ceInfo ?_)
      | ((with_reducible refine at_slot 6 ?_); refine wl_build (v := .agg (ceA zeroCe)) rfl rfl (build_ce0 _) rfl ?_)
      | ((with_reducible refine at_slot 7 ?_); refine wl_bin (v := .bool false) rfl rfl (run_eqGuard_agg _ _ _ _ _ _ _ (by kernel_rfl)) (ce_eql_no HZ.out _) ?_)
      | ((with_reducible refine at_slot 9 ?_); refine wl_ld1 (v := .int .i64 x.n) rfl rfl rfl k1 Try.underlying2 rfl rfl ?_)
      | ((with_reducible refine at_slot 13 ?_); refine wl_ld (evA x.f) rfl rfl rfl k1 Try.underlying24 rfl evInfo (ceA_pf x) ?_)
      | ((with_reducible refine at_slot 14 ?_); refine wl_call rfl rfl Try.func27 (by kernel_rfl) rfl (rev_yes HF.out _) rfl ?_; intro V1 hb; replace k1 := k1.keep hb; replace HB := Lib.hid (below_tr HB.out hb); clear hb)
      | ((with_reducible refine at_slot 19 ?_); refine wl_ld (evA x.l) rfl rfl rfl k1 Try.underlying24 rfl evInfo (ceA_pl x) ?_)
      | ((with_reducible refine at_slot 20 ?_); refine wl_call rfl rfl Try.func27 (by kernel_rfl) rfl (rev_yes HL.out _) rfl ?_; intro V2 hb; replace k1 := k1.keep hb; replace HB := Lib.hid (below_tr HB.out hb); clear hb)
      | ((with_reducible refine at_slot 26 ?_); refine wl_ld1 (v := .int .i64 x.f.t) rfl rfl rfl k1 Try.underlying2 rfl rfl ?_)
      | ((with_reducible refine at_slot 29 ?_); refine wl_ld1 (v := .int .i64 x.l.t) rfl rfl rfl k1 Try.underlying2 rfl rfl ?_)
      | ((with_reducible refine at_slot 34 ?_); refine wl_ld1 (v := .int .i64 x.n) rfl rfl rfl k1 Try.underlying2 rfl rfl ?_)
      | ((with_reducible refine at_slot 37 ?_); refine wl_ld1 (v := .int .i64 x.l.t) rfl rfl rfl k1 Try.underlying2 rfl rfl ?_)
      | ((with_reducible refine at_slot 40 ?_); refine wl_ld1 (v := .int .i64 x.f.t) rfl rfl rfl k1 Try.underlying2 rfl rfl ?_)
      | ((with_reducible refine at_slot 46 ?_); refine wl_ld1 (v := .int .i64 x.n) rfl rfl rfl k1 Try.underlying2 rfl rfl ?_)
      | ((with_reducible refine at_slot 50 ?_); refine wl_ld (evA x.f) rfl rfl rfl k1 Try.underlying24 rfl evInfo (ceA_pf x) ?_)
      | ((with_reducible refine at_slot 52 ?_); refine wl_ld (evA x.l) rfl rfl rfl k1 Try.underlying24 rfl evInfo (ceA_pl x) ?_)
      | ((with_reducible refine at_slot 53 ?_); refine wl_bin (v := .bool false) rfl rfl (run_eqGuard_agg _ _ _ _ _ _ _ (by kernel_rfl)) (ev_neq_yes H5.out _) ?_)
      | ((with_reducible refine at_slot 57 ?_); refine wl_ld1 (v := .int .i64 x.n) rfl rfl rfl k1 Try.underlying2 rfl rfl ?_)
      | ((with_reducible refine at_slot 62 ?_); refine wl_ld1 (v := .int .i64 x.f.t) rfl rfl rfl k1 Try.underlying2 rfl rfl ?_)
      | ((with_reducible refine at_slot 65 ?_); refine wl_ld1 (v := .int .i64 x.l.t) rfl rfl rfl k1 Try.underlying2 rfl rfl ?_)
      | ((with_reducible refine at_slot 70 ?_); refine wl_ld1 (v := .int .i64 x.r) rfl rfl rfl k1 Try.underlying2 rfl rfl ?_)
      | ((with_reducible refine at_slot 74 ?_); refine wl_ld1 (v := .int .i64 x.g) rfl rfl rfl k1 Try.underlying2 rfl rfl ?_)
      | ((with_reducible refine at_slot 79 ?_); refine wl_ld1 (v := .int .i64 x.s) rfl rfl rfl k1 Try.underlying2 rfl rfl ?_)
      | ((with_reducible refine at_slot 84 ?_); refine wl_ld1 (v := .int .i64 x.r) rfl rfl rfl k1 Try.underlying2 rfl rfl ?_)
      | ((with_reducible refine at_slot 86 ?_); refine wl_ld1 (v := .int .i64 x.n) rfl rfl rfl k1 Try.underlying2 rfl rfl ?_)
      | ((with_reducible refine at_slot 91 ?_); refine wl_ld1 (v := .int .i64 x.g) rfl rfl rfl k1 Try.underlying2 rfl rfl ?_)
      | ((with_reducible refine at_slot 93 ?_); refine wl_ld1 (v := .int .i64 x.n) rfl rfl rfl k1 Try.underlying2 rfl rfl ?_)
      | ((with_reducible refine at_slot 98 ?_); refine wl_ld1 (v := .int .i64 x.r) rfl rfl rfl k1 Try.underlying2 rfl rfl ?_)
      | ((with_reducible refine at_slot 100 ?_); refine wl_ld1 (v := .int .i64 x.g) rfl rfl rfl k1 Try.underlying2 rfl rfl ?_)
      | ((with_reducible refine at_slot 103 ?_); refine wl_ld1 (v := .int .i64 x.n) rfl rfl rfl k1 Try.underlying2 rfl rfl ?_)
      | ((with_reducible refine at_slot 108 ?_); refine wl_ld1 (v := .int .i64 x.s) rfl rfl rfl k1 Try.underlying2 rfl rfl ?_)
      | ((with_reducible refine at_slot 111 ?_); refine wl_ld1 (v := .int .i64 x.l.t) rfl rfl rfl k1 Try.underlying2 rfl rfl ?_)
      | ((with_reducible refine at_slot 114 ?_); refine wl_ld1 (v := .int .i64 x.f.t) rfl rfl rfl k1 Try.underlying2 rfl rfl ?_))
  go_ret
  exact ⟨rfl, HB.out⟩
set_option maxHeartbeats 4000000 in
set_option maxRecDepth 100000 in
theorem rc_h31 {x : Ce} (hi : CeIn x) (hz : ¬ x = zeroCe) (h : ¬ x.n < 1) (hf : EvOk x.f) (hl : EvOk x.l) (h2 : ¬ x.l.t < x.f.t) (h3 : ¬ x.l.t - x.f.t + 1 < x.n) (h4 : x.n = 1) (h5 : x.f = x.l) (t0 : ¬ x.r < 0) (t1 : ¬ x.g < 0) (t2 : ¬ x.s < 0) (t3 : x.n ≤ x.r) (w : World) :
    Calls Try.prog 14 #[.agg (ceA x)] w fun e w' => e = .returned (.int .i64 2) ∧ Below w.heap.size w w' := by
  have q0 := hi.n0; have q1 := hi.n1; have q2 := hi.r0; have q3 := hi.r1; have q4 := hi.g0; have q5 := hi.g1; have q6 := hi.s0; have q7 := hi.s1
  have d1 : decide (x.n < 1) = false := by simp <;> omega
  have u1 := hf.t0; have u2 := hf.t1; have u3 := hl.t0; have u4 := hl.t1
  have i1 : IntKind.i64.wrap (x.l.t - x.f.t) = x.l.t - x.f.t := by rw [IntKind.wrap_i64]; omega
  have i2 : IntKind.i64.wrap (x.l.t - x.f.t + 1) = x.l.t - x.f.t + 1 := by rw [IntKind.wrap_i64]; omega
  have d2 : decide (x.l.t < x.f.t) = false := by simp <;> omega
  have d3 : decide (x.l.t - x.f.t + 1 < x.n) = false := by simp <;> omega
  have d4 : (x.n == 1) = true := by simp <;> omega
  have d5 : decide (1 < x.n) = false := by simp <;> omega
  have d10 : decide (x.r < 0) = false := by simp <;> omega
  have d11 : decide (x.g < 0) = false := by simp <;> omega
  have d12 : decide (x.s < 0) = false := by simp <;> omega
  have d13 : decide (x.n ≤ x.r) = true := by simp <;> omega
  have HZ := Lib.hid hz
  have HF := Lib.hid hf
  have HL := Lib.hid hl
  have H5 := Lib.hid h5
  have H4 := Lib.hid h4
  have HI := Lib.hid hi
  clear hz hf hl h5 h4 hi
  have HB := Lib.hid (Below.refl w.heap.size w)
  go_enter Try.func14, Try.ntmps14
  go_wp2_with (first
      | ((with_reducible refine at_slot 1 ?_); refine wl_box (A := (ceA x)) rfl rfl rfl ?_; intro W1 g1 k1 hb hle; have L1 := Lib.hid (Nat.le_trans HB.out.size hle); replace HB := Lib.hid (below_tr HB.out hb); clear hb hle)
      | ((with_reducible refine at_slot 5 ?_); refine wl_ld0 rfl rfl rfl k1 Try.underlying28 rfl ceInfo ?_)
      | ((with_reducible refine at_slot 6 ?_); refine wl_build (v := .agg (ceA zeroCe)) rfl rfl (build_ce0 _) rfl ?_)
      | ((with_reducible refine at_slot 7 ?_); refine wl_bin (v := .bool false) rfl rfl (run_eqGuard_agg _ _ _ _ _ _ _ (by kernel_rfl)) (ce_eql_no HZ.out _) ?_)
      | ((with_reducible refine at_slot 9 ?_); refine wl_ld1 (v := .int .i64 x.n) rfl rfl rfl k1 Try.underlying2 rfl rfl ?_)
      | ((with_reducible refine at_slot 13 ?_); refine wl_ld (evA x.f) rfl rfl rfl k1 Try.underlying24 rfl evInfo (ceA_pf x) ?_)
      | ((with_reducible refine at_slot 14 ?_); refine wl_call rfl rfl Try.func27 (by kernel_rfl) rfl (rev_yes HF.out _) rfl ?_; intro V1 hb; replace k1 := k1.keep hb; replace HB := Lib.hid (below_tr HB.out hb); clear hb)
      | ((with_reducible refine at_slot 19 ?_); refine wl_ld (evA x.l) rfl rfl rfl k1 Try.underlying24 rfl evInfo (ceA_pl x) ?_)
      | ((with_reducible refine at_slot 20 ?_); refine wl_call rfl rfl Try.func27 (by kernel_rfl) rfl (rev_yes HL.out _) rfl ?_; intro V2 hb; replace k1 := k1.keep hb; replace HB := Lib.hid (below_tr HB.out hb); clear hb)
      | ((with_reducible refine at_slot 26 ?_); refine wl_ld1 (v := .int .i64 x.f.t) rfl rfl rfl k1 Try.underlying2 rfl rfl ?_)
      | ((with_reducible refine at_slot 29 ?_); refine wl_ld1 (v := .int .i64 x.l.t) rfl rfl rfl k1 Try.underlying2 rfl rfl ?_)
      | ((with_reducible refine at_slot 34 ?_); refine wl_ld1 (v := .int .i64 x.n) rfl rfl rfl k1 Try.underlying2 rfl rfl ?_)
      | ((with_reducible refine at_slot 37 ?_); refine wl_ld1 (v := .int .i64 x.l.t) rfl rfl rfl k1 Try.underlying2 rfl rfl ?_)
      | ((with_reducible refine at_slot 40 ?_); refine wl_ld1 (v := .int .i64 x.f.t) rfl rfl rfl k1 Try.underlying2 rfl rfl ?_)
      | ((with_reducible refine at_slot 46 ?_); refine wl_ld1 (v := .int .i64 x.n) rfl rfl rfl k1 Try.underlying2 rfl rfl ?_)
      | ((with_reducible refine at_slot 50 ?_); refine wl_ld (evA x.f) rfl rfl rfl k1 Try.underlying24 rfl evInfo (ceA_pf x) ?_)
      | ((with_reducible refine at_slot 52 ?_); refine wl_ld (evA x.l) rfl rfl rfl k1 Try.underlying24 rfl evInfo (ceA_pl x) ?_)
      | ((with_reducible refine at_slot 53 ?_); refine wl_bin (v := .bool false) rfl rfl (run_eqGuard_agg _ _ _ _ _ _ _ (by kernel_rfl)) (ev_neq_yes H5.out _) ?_)
      | ((with_reducible refine at_slot 57 ?_); refine wl_ld1 (v := .int .i64 x.n) rfl rfl rfl k1 Try.underlying2 rfl rfl ?_)
      | ((with_reducible refine at_slot 62 ?_); refine wl_ld1 (v := .int .i64 x.f.t) rfl rfl rfl k1 Try.underlying2 rfl rfl ?_)
      | ((with_reducible refine at_slot 65 ?_); refine wl_ld1 (v := .int .i64 x.l.t) rfl rfl rfl k1 Try.underlying2 rfl rfl ?_)
      | ((with_reducible refine at_slot 70 ?_); refine wl_ld1 (v := .int .i64 x.r) rfl rfl rfl k1 Try.underlying2 rfl rfl ?_)
      | ((with_reducible refine at_slot 74 ?_); refine wl_ld1 (v := .int .i64 x.g) rfl rfl rfl k1 Try.underlying2 rfl rfl ?_)
      | ((with_reducible refine at_slot 79 ?_); refine wl_ld1 (v := .int .i64 x.s) rfl rfl rfl k1 Try.underlying2 rfl rfl ?_)
      | ((with_reducible refine at_slot 84 ?_); refine wl_ld1 (v := .int .i64 x.r) rfl rfl rfl k1 Try.underlying2 rfl rfl ?_)
      | ((with_reducible refine at_slot 86 ?_); refine wl_ld1 (v := .int .i64 x.n) rfl rfl rfl k1 Try.underlying2 rfl rfl ?_)
      | ((with_reducible refine at_slot 91 ?_); refine wl_ld1 (v := .int .i64 x.g) rfl rfl rfl k1 Try.underlying2 rfl rfl ?_)
      | ((with_reducible refine at_slot 93 ?_); refine wl_ld1 (v := .int .i64 x.n) rfl rfl rfl k1 Try.underlying2 rfl rfl ?_)
      | ((with_reducible refine at_slot 98 ?_); refine wl_ld1 (v := .int .i64 x.r) rfl rfl rfl k1 Try.underlying2 rfl rfl ?_)
      | ((with_reducible refine at_slot 100 ?_); refine wl_ld1 (v := .int .i64 x.g) rfl rfl rfl k1 Try.underlying2 rfl rfl ?_)
      | ((with_reducible refine at_slot 103 ?_); refine wl_ld1 (v := .int .i64 x.n) rfl rfl rfl k1 Try.underlying2 rfl rfl ?_)
      | ((with_reducible refine at_slot 108 ?_); refine wl_ld1 (v := .int .i64 x.s) rfl rfl rfl k1 Try.underlying2 rfl rfl ?_)
      | ((with_reducible refine at_slot 111 ?_); refine wl_ld1 (v := .int .i64 x.l.t) rfl rfl rfl k1 Try.underlying2 rfl rfl ?_)
      | ((with_reducible refine at_slot 114 ?_); refine wl_ld1 (v := .int .i64 x.f.t) rfl rfl rfl k1 Try.underlying2 rfl rfl ?_))
  go_ret
  exact ⟨rfl, HB.out⟩
set_option maxHeartbeats 4000000 in
set_option maxRecDepth 100000 in
theorem rc_h41 {x : Ce} (hi : CeIn x) (hz : ¬ x = zeroCe) (h : ¬ x.n < 1) (hf : EvOk x.f) (hl : EvOk x.l) (h2 : ¬ x.l.t < x.f.t) (h3 : ¬ x.l.t - x.f.t + 1 < x.n) (h4 : x.n = 1) (h5 : x.f = x.l) (t0 : ¬ x.r < 0) (t1 : ¬ x.g < 0) (t2 : ¬ x.s < 0) (t3 : ¬ x.n ≤ x.r) (t4 : x.n ≤ x.g) (w : World) :
    Calls Try.prog 14 #[.agg (ceA x)] w fun e w' => e = .returned (.int .i64 2) ∧ Below w.heap.size w w' := by
  have q0 := hi.n0; have q1 := hi.n1; have q2 := hi.r0; have q3 := hi.r1; have q4 := hi.g0; have q5 := hi.g1; have q6 := hi.s0; have q7 := hi.s1
  have d1 : decide (x.n < 1) = false := by simp <;> omega
  have u1 := hf.t0; have u2 := hf.t1; have u3 := hl.t0; have u4 := hl.t1
  have i1 : IntKind.i64.wrap (x.l.t - x.f.t) = x.l.t - x.f.t := by rw [IntKind.wrap_i64]; omega
  have i2 : IntKind.i64.wrap (x.l.t - x.f.t + 1) = x.l.t - x.f.t + 1 := by rw [IntKind.wrap_i64]; omega
  have d2 : decide (x.l.t < x.f.t) = false := by simp <;> omega
  have d3 : decide (x.l.t - x.f.t + 1 < x.n) = false := by simp <;> omega
  have d4 : (x.n == 1) = true := by simp <;> omega
  have d5 : decide (1 < x.n) = false := by simp <;> omega
  have d10 : decide (x.r < 0) = false := by simp <;> omega
  have d11 : decide (x.g < 0) = false := by simp <;> omega
  have d12 : decide (x.s < 0) = false := by simp <;> omega
  have d13 : decide (x.n ≤ x.r) = false := by simp <;> omega
  have d14 : decide (x.n ≤ x.g) = true := by simp <;> omega
  have HZ := Lib.hid hz
  have HF := Lib.hid hf
  have HL := Lib.hid hl
  have H5 := Lib.hid h5
  have H4 := Lib.hid h4
  have HI := Lib.hid hi
  clear hz hf hl h5 h4 hi
  have HB := Lib.hid (Below.refl w.heap.size w)
  go_enter Try.func14, Try.ntmps14
  go_wp2_with (first
      | ((with_reducible refine at_slot 1 ?_); refine wl_box (A := (ceA x)) rfl rfl rfl ?_; intro W1 g1 k1 hb hle; have L1 := Lib.hid (Nat.le_trans HB.out.size hle); replace HB := Lib.hid (below_tr HB.out hb); clear hb hle)
      | ((with_reducible refine at_slot 5 ?_); refine wl_ld0 rfl rfl rfl k1 Try.underlying28 rfl ceInfo ?_)
      | ((with_reducible refine at_slot 6 ?_); refine wl_build (v := .agg (ceA zeroCe)) rfl rfl (build_ce0 _) rfl ?_)
      | ((with_reducible refine at_slot 7 ?_); refine wl_bin (v := .bool false) rfl rfl (run_eqGuard_agg _ _ _ _ _ _ _ (by kernel_rfl)) (ce_eql_no HZ.out _) ?_)
      | ((with_reducible refine at_slot 9 ?_); refine wl_ld1 (v := .int .i64 x.n) rfl rfl rfl k1 Try.underlying2 rfl rfl ?_)
      | ((with_reducible refine at_slot 13 ?_); refine wl_ld (evA x.f) rfl rfl rfl k1 Try.underlying24 rfl evInfo (ceA_pf x) ?_)
      | ((with_reducible refine at_slot 14 ?_); refine wl_call rfl rfl Try.func27 (by kernel_rfl) rfl (rev_yes HF.out _) rfl ?_; intro V1 hb; replace k1 := k1.keep hb; replace HB := Lib.hid (below_tr HB.out hb); clear hb)
      | ((with_reducible refine at_slot 19 ?_); refine wl_ld (evA x.l) rfl rfl rfl k1 Try.underlying24 rfl evInfo (ceA_pl x) ?_)
      | ((with_reducible refine at_slot 20 ?_); refine wl_call rfl rfl Try.func27 (by kernel_rfl) rfl (rev_yes HL.out _) rfl ?_; intro V2 hb; replace k1 := k1.keep hb; replace HB := Lib.hid (below_tr HB.out hb); clear hb)
      | ((with_reducible refine at_slot 26 ?_); refine wl_ld1 (v := .int .i64 x.f.t) rfl rfl rfl k1 Try.underlying2 rfl rfl ?_)
      | ((with_reducible refine at_slot 29 ?_); refine wl_ld1 (v := .int .i64 x.l.t) rfl rfl rfl k1 Try.underlying2 rfl rfl ?_)
      | ((with_reducible refine at_slot 34 ?_); refine wl_ld1 (v := .int .i64 x.n) rfl rfl rfl k1 Try.underlying2 rfl rfl ?_)
      | ((with_reducible refine at_slot 37 ?_); refine wl_ld1 (v := .int .i64 x.l.t) rfl rfl rfl k1 Try.underlying2 rfl rfl ?_)
      | ((with_reducible refine at_slot 40 ?_); refine wl_ld1 (v := .int .i64 x.f.t) rfl rfl rfl k1 Try.underlying2 rfl rfl ?_)
      | ((with_reducible refine at_slot 46 ?_); refine wl_ld1 (v := .int .i64 x.n) rfl rfl rfl k1 Try.underlying2 rfl rfl ?_)
      | ((with_reducible refine at_slot 50 ?_); refine wl_ld (evA x.f) rfl rfl rfl k1 Try.underlying24 rfl evInfo (ceA_pf x) ?_)
      | ((with_reducible refine at_slot 52 ?_); refine wl_ld (evA x.l) rfl rfl rfl k1 Try.underlying24 rfl evInfo (ceA_pl x) ?_)
      | ((with_reducible refine at_slot 53 ?_); refine wl_bin (v := .bool false) rfl rfl (run_eqGuard_agg _ _ _ _ _ _ _ (by kernel_rfl)) (ev_neq_yes H5.out _) ?_)
      | ((with_reducible refine at_slot 57 ?_); refine wl_ld1 (v := .int .i64 x.n) rfl rfl rfl k1 Try.underlying2 rfl rfl ?_)
      | ((with_reducible refine at_slot 62 ?_); refine wl_ld1 (v := .int .i64 x.f.t) rfl rfl rfl k1 Try.underlying2 rfl rfl ?_)
      | ((with_reducible refine at_slot 65 ?_); refine wl_ld1 (v := .int .i64 x.l.t) rfl rfl rfl k1 Try.underlying2 rfl rfl ?_)
      | ((with_reducible refine at_slot 70 ?_); refine wl_ld1 (v := .int .i64 x.r) rfl rfl rfl k1 Try.underlying2 rfl rfl ?_)
      | ((with_reducible refine at_slot 74 ?_); refine wl_ld1 (v := .int .i64 x.g) rfl rfl rfl k1 Try.underlying2 rfl rfl ?_)
      | ((with_reducible refine at_slot 79 ?_); refine wl_ld1 (v := .int .i64 x.s) rfl rfl rfl k1 Try.underlying2 rfl rfl ?_)
      | ((with_reducible refine at_slot 84 ?_); refine wl_ld1 (v := .int .i64 x.r) rfl rfl rfl k1 Try.underlying2 rfl rfl ?_)
      | ((with_reducible refine at_slot 86 ?_); refine wl_ld1 (v := .int .i64 x.n) rfl rfl rfl k1 Try.underlying2 rfl rfl ?_)
      | ((with_reducible refine at_slot 91 ?_); refine wl_ld1 (v := .int .i64 x.g) rfl rfl rfl k1 Try.underlying2 rfl rfl ?_)
      | ((with_reducible refine at_slot 93 ?_); refine wl_ld1 (v := .int .i64 x.n) rfl rfl rfl k1 Try.underlying2 rfl rfl ?_)
      | ((with_reducible refine at_slot 98 ?_); refine wl_ld1 (v := .int .i64 x.r) rfl rfl rfl k1 Try.underlying2 rfl rfl ?_)
      | ((with_reducible refine at_slot 100 ?_); refine wl_ld1 (v := .int .i64 x.g) rfl rfl rfl k1 Try.underlying2 rfl rfl ?_)
      | ((with_reducible refine at_slot 103 ?_); refine wl_ld1 (v := .int .i64 x.n) rfl rfl rfl k1 Try.underlying2 rfl rfl ?_)
      | ((with_reducible refine at_slot 108 ?_); refine wl_ld1 (v := .int .i64 x.s) rfl rfl rfl k1 Try.underlying2 rfl rfl ?_)
      | ((with_reducible refine at_slot 111 ?_); refine wl_ld1 (v := .int .i64 x.l.t) rfl rfl rfl k1 Try.underlying2 rfl rfl ?_)
      | ((with_reducible refine at_slot 114 ?_); refine wl_ld1 (v := .int .i64 x.f.t) rfl rfl rfl k1 Try.underlying2 rfl rfl ?_))
  go_ret
  exact ⟨rfl, HB.out⟩
set_option maxHeartbeats 4000000 in
set_option maxRecDepth 100000 in
theorem rc_h61 {x : Ce} (hi : CeIn x) (hz : ¬ x = zeroCe) (h : ¬ x.n < 1) (hf : EvOk x.f) (hl : EvOk x.l) (h2 : ¬ x.l.t < x.f.t) (h3 : ¬ x.l.t - x.f.t + 1 < x.n) (h4 : x.n = 1) (h5 : x.f = x.l) (t0 : ¬ x.r < 0) (t1 : ¬ x.g < 0) (t2 : ¬ x.s < 0) (t3 : ¬ x.n ≤ x.r) (t4 : ¬ x.n ≤ x.g) (t5 : ¬ x.n ≤ x.r + x.g) (t6 : x.l.t - x.f.t < x.s) (w : World) :
    Calls Try.prog 14 #[.agg (ceA x)] w fun e w' => e = .returned (.int .i64 2) ∧ Below w.heap.size w w' := by
  have q0 := hi.n0; have q1 := hi.n1; have q2 := hi.r0; have q3 := hi.r1; have q4 := hi.g0; have q5 := hi.g1; have q6 := hi.s0; have q7 := hi.s1
  have d1 : decide (x.n < 1) = false := by simp <;> omega
  have u1 := hf.t0; have u2 := hf.t1; have u3 := hl.t0; have u4 := hl.t1
  have i1 : IntKind.i64.wrap (x.l.t - x.f.t) = x.l.t - x.f.t := by rw [IntKind.wrap_i64]; omega
  have i2 : IntKind.i64.wrap (x.l.t - x.f.t + 1) = x.l.t - x.f.t + 1 := by rw [IntKind.wrap_i64]; omega
  have d2 : decide (x.l.t < x.f.t) = false := by simp <;> omega
  have d3 : decide (x.l.t - x.f.t + 1 < x.n) = false := by simp <;> omega
  have d4 : (x.n == 1) = true := by simp <;> omega
  have d5 : decide (1 < x.n) = false := by simp <;> omega
  have d10 : decide (x.r < 0) = false := by simp <;> omega
  have d11 : decide (x.g < 0) = false := by simp <;> omega
  have d12 : decide (x.s < 0) = false := by simp <;> omega
  have d13 : decide (x.n ≤ x.r) = false := by simp <;> omega
  have d14 : decide (x.n ≤ x.g) = false := by simp <;> omega
  have i3 : IntKind.i64.wrap (x.r + x.g) = x.r + x.g := by rw [IntKind.wrap_i64]; omega
  have d15 : decide (x.n ≤ x.r + x.g) = false := by simp <;> omega
  have d16 : decide (x.l.t - x.f.t < x.s) = true := by simp <;> omega
  have HZ := Lib.hid hz
  have HF := Lib.hid hf
  have HL := Lib.hid hl
  have H5 := Lib.hid h5
  have H4 := Lib.hid h4
  have HI := Lib.hid hi
  clear hz hf hl h5 h4 hi
  have HB := Lib.hid (Below.refl w.heap.size w)
  go_enter Try.func14, Try.ntmps14
  go_wp2_with (first
      | ((with_reducible refine at_slot 1 ?_); refine wl_box (A := (ceA x)) rfl rfl rfl ?_; intro W1 g1 k1 hb hle; have L1 := Lib.hid (Nat.le_trans HB.out.size hle); replace HB := Lib.hid (below_tr HB.out hb); clear hb hle)
      | ((with_reducible refine at_slot 5 ?_); refine wl_ld0 rfl rfl rfl k1 Try.underlying28 rfl ceInfo ?_)
      | ((with_reducible refine at_slot 6 ?_); refine wl_build (v := .agg (ceA zeroCe)) rfl rfl (build_ce0 _) rfl ?_)
      | ((with_reducible refine at_slot 7 ?_); refine wl_bin (v := .bool false) rfl rfl (run_eqGuard_agg _ _ _ _ _ _ _ (by kernel_rfl)) (ce_eql_no HZ.out _) ?_)
      | ((with_reducible refine at_slot 9 ?_); refine wl_ld1 (v := .int .i64 x.n) rfl rfl rfl k1 Try.underlying2 rfl rfl ?_)
      | ((with_reducible refine at_slot 13 ?_); refine wl_ld (evA x.f) rfl rfl rfl k1 Try.underlying24 rfl evInfo (ceA_pf x) ?_)
      | ((with_reducible refine at_slot 14 ?_); refine wl_call rfl rfl Try.func27 (by kernel_rfl) rfl (rev_yes HF.out _) rfl ?_; intro V1 hb; replace k1 := k1.keep hb; replace HB := Lib.hid (below_tr HB.out hb); clear hb)
      | ((with_reducible refine at_slot 19 ?_); refine wl_ld (evA x.l) rfl rfl rfl k1 Try.underlying24 rfl evInfo (ceA_pl x) ?_)
      | ((with_reducible refine at_slot 20 ?_); refine wl_call rfl rfl Try.func27 (by kernel_rfl) rfl (rev_yes HL.out _) rfl ?_; intro V2 hb; replace k1 := k1.keep hb; replace HB := Lib.hid (below_tr HB.out hb); clear hb)
      | ((with_reducible refine at_slot 26 ?_); refine wl_ld1 (v := .int .i64 x.f.t) rfl rfl rfl k1 Try.underlying2 rfl rfl ?_)
      | ((with_reducible refine at_slot 29 ?_); refine wl_ld1 (v := .int .i64 x.l.t) rfl rfl rfl k1 Try.underlying2 rfl rfl ?_)
      | ((with_reducible refine at_slot 34 ?_); refine wl_ld1 (v := .int .i64 x.n) rfl rfl rfl k1 Try.underlying2 rfl rfl ?_)
      | ((with_reducible refine at_slot 37 ?_); refine wl_ld1 (v := .int .i64 x.l.t) rfl rfl rfl k1 Try.underlying2 rfl rfl ?_)
      | ((with_reducible refine at_slot 40 ?_); refine wl_ld1 (v := .int .i64 x.f.t) rfl rfl rfl k1 Try.underlying2 rfl rfl ?_)
      | ((with_reducible refine at_slot 46 ?_); refine wl_ld1 (v := .int .i64 x.n) rfl rfl rfl k1 Try.underlying2 rfl rfl ?_)
      | ((with_reducible refine at_slot 50 ?_); refine wl_ld (evA x.f) rfl rfl rfl k1 Try.underlying24 rfl evInfo (ceA_pf x) ?_)
      | ((with_reducible refine at_slot 52 ?_); refine wl_ld (evA x.l) rfl rfl rfl k1 Try.underlying24 rfl evInfo (ceA_pl x) ?_)
      | ((with_reducible refine at_slot 53 ?_); refine wl_bin (v := .bool false) rfl rfl (run_eqGuard_agg _ _ _ _ _ _ _ (by kernel_rfl)) (ev_neq_yes H5.out _) ?_)
      | ((with_reducible refine at_slot 57 ?_); refine wl_ld1 (v := .int .i64 x.n) rfl rfl rfl k1 Try.underlying2 rfl rfl ?_)
      | ((with_reducible refine at_slot 62 ?_); refine wl_ld1 (v := .int .i64 x.f.t) rfl rfl rfl k1 Try.underlying2 rfl rfl ?_)
      | ((with_reducible refine at_slot 65 ?_); refine wl_ld1 (v := .int .i64 x.l.t) rfl rfl rfl k1 Try.underlying2 rfl rfl ?_)
      | ((with_reducible refine at_slot 70 ?_); refine wl_ld1 (v := .int .i64 x.r) rfl rfl rfl k1 Try.underlying2 rfl rfl ?_)
      | ((with_reducible refine at_slot 74 ?_); refine wl_ld1 (v := .int .i64 x.g) rfl rfl rfl k1 Try.underlying2 rfl rfl ?_)
      | ((with_reducible refine at_slot 79 ?_); refine wl_ld1 (v := .int .i64 x.s) rfl rfl rfl k1 Try.underlying2 rfl rfl ?_)
      | ((with_reducible refine at_slot 84 ?_); refine wl_ld1 (v := .int .i64 x.r) rfl rfl rfl k1 Try.underlying2 rfl rfl ?_)
      | ((with_reducible refine at_slot 86 ?_); refine wl_ld1 (v := .int .i64 x.n) rfl rfl rfl k1 Try.underlying2 rfl rfl ?_)
      | ((with_reducible refine at_slot 91 ?_); refine wl_ld1 (v := .int .i64 x.g) rfl rfl rfl k1 Try.underlying2 rfl rfl ?_)
      | ((with_reducible refine at_slot 93 ?_); refine wl_ld1 (v := .int .i64 x.n) rfl rfl rfl k1 Try.underlying2 rfl rfl ?_)
      | ((with_reducible refine at_slot 98 ?_); refine wl_ld1 (v := .int .i64 x.r) rfl rfl rfl k1 Try.underlying2 rfl rfl ?_)
      | ((with_reducible refine at_slot 100 ?_); refine wl_ld1 (v := .int .i64 x.g) rfl rfl rfl k1 Try.underlying2 rfl rfl ?_)
      | ((with_reducible refine at_slot 103 ?_); refine wl_ld1 (v := .int .i64 x.n) rfl rfl rfl k1 Try.underlying2 rfl rfl ?_)
      | ((with_reducible refine at_slot 108 ?_); refine wl_ld1 (v := .int .i64 x.s) rfl rfl rfl k1 Try.underlying2 rfl rfl ?_)
      | ((with_reducible refine at_slot 111 ?_); refine wl_ld1 (v := .int .i64 x.l.t) rfl rfl rfl k1 Try.underlying2 rfl rfl ?_)
      | ((with_reducible refine at_slot 114 ?_); refine wl_ld1 (v := .int .i64 x.f.t) rfl rfl rfl k1 Try.underlying2 rfl rfl ?_))
  go_ret
  exact ⟨rfl, HB.out⟩
set_option maxHeartbeats 4000000 in
set_option maxRecDepth 100000 in
theorem rc_it1 {x : Ce} (hi : CeIn x) (hz : ¬ x = zeroCe) (h : ¬ x.n < 1) (hf : EvOk x.f) (hl : EvOk x.l) (h2 : ¬ x.l.t < x.f.t) (h3 : ¬ x.l.t - x.f.t + 1 < x.n) (h4 : x.n = 1) (h5 : x.f = x.l) (t0 : ¬ x.r < 0) (t1 : ¬ x.g < 0) (t2 : ¬ x.s < 0) (t3 : ¬ x.n ≤ x.r) (t4 : ¬ x.n ≤ x.g) (t5 : ¬ x.n ≤ x.r + x.g) (t6 : ¬ x.l.t - x.f.t < x.s) (hb : lessB (timesU maxU (x.n - 1).toNat) x.i = true) (w : World) :
    Calls Try.prog 14 #[.agg (ceA x)] w fun e w' => e = .returned (.int .i64 2) ∧ Below w.heap.size w w' := by
  have q0 := hi.n0; have q1 := hi.n1; have q2 := hi.r0; have q3 := hi.r1; have q4 := hi.g0; have q5 := hi.g1; have q6 := hi.s0; have q7 := hi.s1
  have d1 : decide (x.n < 1) = false := by simp <;> omega
  have u1 := hf.t0; have u2 := hf.t1; have u3 := hl.t0; have u4 := hl.t1
  have i1 : IntKind.i64.wrap (x.l.t - x.f.t) = x.l.t - x.f.t := by rw [IntKind.wrap_i64]; omega
  have i2 : IntKind.i64.wrap (x.l.t - x.f.t + 1) = x.l.t - x.f.t + 1 := by rw [IntKind.wrap_i64]; omega
  have d2 : decide (x.l.t < x.f.t) = false := by simp <;> omega
  have d3 : decide (x.l.t - x.f.t + 1 < x.n) = false := by simp <;> omega
  have d4 : (x.n == 1) = true := by simp <;> omega
  have d5 : decide (1 < x.n) = false := by simp <;> omega
  have d10 : decide (x.r < 0) = false := by simp <;> omega
  have d11 : decide (x.g < 0) = false := by simp <;> omega
  have d12 : decide (x.s < 0) = false := by simp <;> omega
  have d13 : decide (x.n ≤ x.r) = false := by simp <;> omega
  have d14 : decide (x.n ≤ x.g) = false := by simp <;> omega
  have i3 : IntKind.i64.wrap (x.r + x.g) = x.r + x.g := by rw [IntKind.wrap_i64]; omega
  have d15 : decide (x.n ≤ x.r + x.g) = false := by simp <;> omega
  have d16 : decide (x.l.t - x.f.t < x.s) = false := by simp <;> omega
  have hk : (x.n - 1).toNat < 18446744073709551616 := by omega
  have i4 : IntKind.i64.wrap (x.n - 1) = ((x.n - 1).toNat : Int) := by rw [IntKind.wrap_i64]; omega
  have i5 : IntKind.u64.wrap ((x.n - 1).toNat : Int) = ((x.n - 1).toNat : Int) := by rw [IntKind.wrap_u64]; omega
  have HK := Lib.hid hk
  obtain ⟨k, hkk⟩ : ∃ k, k = (x.n - 1).toNat := ⟨_, rfl⟩
  rw [← hkk] at i4 i5 HK
  have HM := Lib.hid (fun w => rmost HK.out w)
  obtain ⟨M, hM⟩ : ∃ M, M = timesU maxU k := ⟨_, rfl⟩
  rw [← hM] at HM
  have hlb : lessB M x.i = true := by rw [hM, hkk]; exact hb
  have HL2 := Lib.hid (fun w => rlessW M x.i w)
  rw [hlb] at HL2
  clear hlb hM hkk hk hb
  have HZ := Lib.hid hz
  have HF := Lib.hid hf
  have HL := Lib.hid hl
  have H5 := Lib.hid h5
  have H4 := Lib.hid h4
  have HI := Lib.hid hi
  clear hz hf hl h5 h4 hi
  have HB := Lib.hid (Below.refl w.heap.size w)
  go_enter Try.func14, Try.ntmps14
  go_wp2_with (first
      | ((with_reducible refine at_slot 1 ?_); refine wl_box (A := (ceA x)) rfl rfl rfl ?_; intro W1 g1 k1 hb hle; have L1 := Lib.hid (Nat.le_trans HB.out.size hle); replace HB := Lib.hid (below_tr HB.out hb); clear hb hle)
      | ((with_reducible refine at_slot 5 ?_); refine wl_ld0 rfl rfl rfl k1 Try.underlying28 rfl ceInfo ?_)
      | ((with_reducible refine at_slot 6 ?_); refine wl_build (v := .agg (ceA zeroCe)) rfl rfl (build_ce0 _) rfl ?_)
      | ((with_reducible refine at_slot 7 ?_); refine wl_bin (v := .bool false) rfl rfl (run_eqGuard_agg _ _ _ _ _ _ _ (by kernel_rfl)) (ce_eql_no HZ.out _) ?_)
      | ((with_reducible refine at_slot 9 ?_); refine wl_ld1 (v := .int .i64 x.n) rfl rfl rfl k1 Try.underlying2 rfl rfl ?_)
      | ((with_reducible refine at_slot 13 ?_); refine wl_ld (evA x.f) rfl rfl rfl k1 Try.underlying24 rfl evInfo (ceA_pf x) ?_)
      | ((with_reducible refine at_slot 14 ?_); refine wl_call rfl rfl Try.func27 (by kernel_rfl) rfl (rev_yes HF.out _) rfl ?_; intro V1 hb; replace k1 := k1.keep hb; replace HB := Lib.hid (below_tr HB.out hb); clear hb)
      | ((with_reducible refine at_slot 19 ?_); refine wl_ld (evA x.l) rfl rfl rfl k1 Try.underlying24 rfl evInfo (ceA_pl x) ?_)
      | ((with_reducible refine at_slot 20 ?_); refine wl_call rfl rfl Try.func27 (by kernel_rfl) rfl (rev_yes HL.out _) rfl ?_; intro V2 hb; replace k1 := k1.keep hb; replace HB := Lib.hid (below_tr HB.out hb); clear hb)
      | ((with_reducible refine at_slot 26 ?_); refine wl_ld1 (v := .int .i64 x.f.t) rfl rfl rfl k1 Try.underlying2 rfl rfl ?_)
      | ((with_reducible refine at_slot 29 ?_); refine wl_ld1 (v := .int .i64 x.l.t) rfl rfl rfl k1 Try.underlying2 rfl rfl ?_)
      | ((with_reducible refine at_slot 34 ?_); refine wl_ld1 (v := .int .i64 x.n) rfl rfl rfl k1 Try.underlying2 rfl rfl ?_)
      | ((with_reducible refine at_slot 37 ?_); refine wl_ld1 (v := .int .i64 x.l.t) rfl rfl rfl k1 Try.underlying2 rfl rfl ?_)
      | ((with_reducible refine at_slot 40 ?_); refine wl_ld1 (v := .int .i64 x.f.t) rfl rfl rfl k1 Try.underlying2 rfl rfl ?_)
      | ((with_reducible refine at_slot 46 ?_); refine wl_ld1 (v := .int .i64 x.n) rfl rfl rfl k1 Try.underlying2 rfl rfl ?_)
      | ((with_reducible refine at_slot 50 ?_); refine wl_ld (evA x.f) rfl rfl rfl k1 Try.underlying24 rfl evInfo (ceA_pf x) ?_)
      | ((with_reducible refine at_slot 52 ?_); refine wl_ld (evA x.l) rfl rfl rfl k1 Try.underlying24 rfl evInfo (ceA_pl x) ?_)
      | ((with_reducible refine at_slot 53 ?_); refine wl_bin (v := .bool false) rfl rfl (run_eqGuard_agg _ _ _ _ _ _ _ (by kernel_rfl)) (ev_neq_yes H5.out _) ?_)
      | ((with_reducible refine at_slot 57 ?_); refine wl_ld1 (v := .int .i64 x.n) rfl rfl rfl k1 Try.underlying2 rfl rfl ?_)
      | ((with_reducible refine at_slot 62 ?_); refine wl_ld1 (v := .int .i64 x.f.t) rfl rfl rfl k1 Try.underlying2 rfl rfl ?_)
      | ((with_reducible refine at_slot 65 ?_); refine wl_ld1 (v := .int .i64 x.l.t) rfl rfl rfl k1 Try.underlying2 rfl rfl ?_)
      | ((with_reducible refine at_slot 70 ?_); refine wl_ld1 (v := .int .i64 x.r) rfl rfl rfl k1 Try.underlying2 rfl rfl ?_)
      | ((with_reducible refine at_slot 74 ?_); refine wl_ld1 (v := .int .i64 x.g) rfl rfl rfl k1 Try.underlying2 rfl rfl ?_)
      | ((with_reducible refine at_slot 79 ?_); refine wl_ld1 (v := .int .i64 x.s) rfl rfl rfl k1 Try.underlying2 rfl rfl ?_)
      | ((with_reducible refine at_slot 84 ?_); refine wl_ld1 (v := .int .i64 x.r) rfl rfl rfl k1 Try.underlying2 rfl rfl ?_)
      | ((with_reducible refine at_slot 86 ?_); refine wl_ld1 (v := .int .i64 x.n) rfl rfl rfl k1 Try.underlying2 rfl rfl ?_)
      | ((with_reducible refine at_slot 91 ?_); refine wl_ld1 (v := .int .i64 x.g) rfl rfl rfl k1 Try.underlying2 rfl rfl ?_)
      | ((with_reducible refine at_slot 93 ?_); refine wl_ld1 (v := .int .i64 x.n) rfl rfl rfl k1 Try.underlying2 rfl rfl ?_)
      | ((with_reducible refine at_slot 98 ?_); refine wl_ld1 (v := .int .i64 x.r) rfl rfl rfl k1 Try.underlying2 rfl rfl ?_)
      | ((with_reducible refine at_slot 100 ?_); refine wl_ld1 (v := .int .i64 x.g) rfl rfl rfl k1 Try.underlying2 rfl rfl ?_)
      | ((with_reducible refine at_slot 103 ?_); refine wl_ld1 (v := .int .i64 x.n) rfl rfl rfl k1 Try.underlying2 rfl rfl ?_)
      | ((with_reducible refine at_slot 108 ?_); refine wl_ld1 (v := .int .i64 x.s) rfl rfl rfl k1 Try.underlying2 rfl rfl ?_)
      | ((with_reducible refine at_slot 111 ?_); refine wl_ld1 (v := .int .i64 x.l.t) rfl rfl rfl k1 Try.underlying2 rfl rfl ?_)
      | ((with_reducible refine at_slot 114 ?_); refine wl_ld1 (v := .int .i64 x.f.t) rfl rfl rfl k1 Try.underlying2 rfl rfl ?_)
      | ((with_reducible refine at_slot 121 ?_); refine wl_ld1 (v := .int .i64 x.n) rfl rfl rfl k1 Try.underlying2 rfl rfl ?_)
      | ((with_reducible refine at_slot 124 ?_); refine wl_call rfl rfl Try.func28 (by kernel_rfl) rfl (HM.out _) rfl ?_; intro V3 hb; replace k1 := k1.keep hb; replace HB := Lib.hid (below_tr HB.out hb); clear hb)
      | ((with_reducible refine at_slot 3 ?_); refine wl_alloc (A := (wdA U.zero)) rfl rfl wd_zero rfl ?_; intro W2 g2 k2 hb hle; have n1_2 := Lib.hid (Blk.ne_of_le k1 hle); have L2 := Lib.hid (Nat.le_trans HB.out.size hle); replace k1 := k1.keep hb; replace HB := Lib.hid (below_tr HB.out hb); clear hb hle)
      | ((with_reducible refine at_store 3 ?_); refine wl_st0 (A' := (wdA M)) rfl rfl rfl rfl k2 rfl wdInfo (wdA_one M) ?_; intro V4 kn hu; replace k1 := k1.upd hu n1_2.out; replace HB := Lib.hid (upd_below HB.out hu L2.out); clear k2; have k2 : Blk _ g2 _ (wdA M) := kn; clear kn hu)
      | ((with_reducible refine at_slot 127 ?_); refine wl_ld0 rfl rfl rfl k2 Try.underlying26 rfl wdInfo ?_)
      | ((with_reducible refine at_slot 129 ?_); refine wl_ld (wdA x.i) rfl rfl rfl k1 Try.underlying26 rfl wdInfo (ceA_pi x) ?_)
      | ((with_reducible refine at_slot 130 ?_); refine wl_call rfl rfl Try.func29 (by kernel_rfl) rfl (HL2.out _) rfl ?_; intro V5 hb; replace k1 := k1.keep hb; replace k2 := k2.keep hb; replace HB := Lib.hid (below_tr HB.out hb); clear hb))
  go_ret
  exact ⟨rfl, HB.out⟩
set_option maxHeartbeats 4000000 in
set_option maxRecDepth 100000 in
theorem rc_if1 {x : Ce} (hi : CeIn x) (hz : ¬ x = zeroCe) (h : ¬ x.n < 1) (hf : EvOk x.f) (hl : EvOk x.l) (h2 : ¬ x.l.t < x.f.t) (h3 : ¬ x.l.t - x.f.t + 1 < x.n) (h4 : x.n = 1) (h5 : x.f = x.l) (t0 : ¬ x.r < 0) (t1 : ¬ x.g < 0) (t2 : ¬ x.s < 0) (t3 : ¬ x.n ≤ x.r) (t4 : ¬ x.n ≤ x.g) (t5 : ¬ x.n ≤ x.r + x.g) (t6 : ¬ x.l.t - x.f.t < x.s) (hb : lessB (timesU maxU (x.n - 1).toNat) x.i = false) (w : World) :
    Calls Try.prog 14 #[.agg (ceA x)] w fun e w' => e = .returned (.int .i64 0) ∧ Below w.heap.size w w' := by
  have q0 := hi.n0; have q1 := hi.n1; have q2 := hi.r0; have q3 := hi.r1; have q4 := hi.g0; have q5 := hi.g1; have q6 := hi.s0; have q7 := hi.s1
  have d1 : decide (x.n < 1) = false := by simp <;> omega
  have u1 := hf.t0; have u2 := hf.t1; have u3 := hl.t0; have u4 := hl.t1
  have i1 : IntKind.i64.wrap (x.l.t - x.f.t) = x.l.t - x.f.t := by rw [IntKind.wrap_i64]; omega
  have i2 : IntKind.i64.wrap (x.l.t - x.f.t + 1) = x.l.t - x.f.t + 1 := by rw [IntKind.wrap_i64]; omega
  have d2 : decide (x.l.t < x.f.t) = false := by simp <;> omega
  have d3 : decide (x.l.t - x.f.t + 1 < x.n) = false := by simp <;> omega
  have d4 : (x.n == 1) = true := by simp <;> omega
  have d5 : decide (1 < x.n) = false := by simp <;> omega
  have d10 : decide (x.r < 0) = false := by simp <;> omega
  have d11 : decide (x.g < 0) = false := by simp <;> omega
  have d12 : decide (x.s < 0) = false := by simp <;> omega
  have d13 : decide (x.n ≤ x.r) = false := by simp <;> omega
  have d14 : decide (x.n ≤ x.g) = false := by simp <;> omega
  have i3 : IntKind.i64.wrap (x.r + x.g) = x.r + x.g := by rw [IntKind.wrap_i64]; omega
  have d15 : decide (x.n ≤ x.r + x.g) = false := by simp <;> omega
  have d16 : decide (x.l.t - x.f.t < x.s) = false := by simp <;> omega
  have hk : (x.n - 1).toNat < 18446744073709551616 := by omega
  have i4 : IntKind.i64.wrap (x.n - 1) = ((x.n - 1).toNat : Int) := by rw [IntKind.wrap_i64]; omega
  have i5 : IntKind.u64.wrap ((x.n - 1).toNat : Int) = ((x.n - 1).toNat : Int) := by rw [IntKind.wrap_u64]; omega
  have HK := Lib.hid hk
  obtain ⟨k, hkk⟩ : ∃ k, k = (x.n - 1).toNat := ⟨_, rfl⟩
  rw [← hkk] at i4 i5 HK
  have HM := Lib.hid (fun w => rmost HK.out w)
  obtain ⟨M, hM⟩ : ∃ M, M = timesU maxU k := ⟨_, rfl⟩
  rw [← hM] at HM
  have hlb : lessB M x.i = false := by rw [hM, hkk]; exact hb
  have HL2 := Lib.hid (fun w => rlessW M x.i w)
  rw [hlb] at HL2
  clear hlb hM hkk hk hb
  have HZ := Lib.hid hz
  have HF := Lib.hid hf
  have HL := Lib.hid hl
  have H5 := Lib.hid h5
  have H4 := Lib.hid h4
  have HI := Lib.hid hi
  clear hz hf hl h5 h4 hi
  have HB := Lib.hid (Below.refl w.heap.size w)
  go_enter Try.func14, Try.ntmps14
  go_wp2_with (first
      | ((with_reducible refine at_slot 1 ?_); refine wl_box (A := (ceA x)) rfl rfl rfl ?_; intro W1 g1 k1 hb hle; have L1 := Lib.hid (Nat.le_trans HB.out.size hle); replace HB := Lib.hid (below_tr HB.out hb); clear hb hle)
      | ((with_reducible refine at_slot 5 ?_); refine wl_ld0 rfl rfl rfl k1 Try.underlying28 rfl ceInfo ?_)
      | ((with_reducible refine at_slot 6 ?_); refine wl_build (v := .agg (ceA zeroCe)) rfl rfl (build_ce0 _) rfl ?_)
      | ((with_reducible refine at_slot 7 ?_); refine wl_bin (v := .bool false) rfl rfl (run_eqGuard_agg _ _ _ _ _ _ _ (by kernel_rfl)) (ce_eql_no HZ.out _) ?_)
      | ((with_reducible refine at_slot 9 ?_); refine wl_ld1 (v := .int .i64 x.n) rfl rfl rfl k1 Try.underlying2 rfl rfl ?_)
      | ((with_reducible refine at_slot 13 ?_); refine wl_ld (evA x.f) rfl rfl rfl k1 Try.underlying24 rfl evInfo (ceA_pf x) ?_)
      | ((with_reducible refine at_slot 14 ?_); refine wl_call rfl rfl Try.func27 (by kernel_rfl) rfl (rev_yes HF.out _) rfl ?_; intro V1 hb; replace k1 := k1.keep hb; replace HB := Lib.hid (below_tr HB.out hb); clear hb)
      | ((with_reducible refine at_slot 19 ?_); refine wl_ld (evA x.l) rfl rfl rfl k1 Try.underlying24 rfl evInfo (ceA_pl x) ?_)
      | ((with_reducible refine at_slot 20 ?_); refine wl_call rfl rfl Try.func27 (by kernel_rfl) rfl (rev_yes HL.out _) rfl ?_; intro V2 hb; replace k1 := k1.keep hb; replace HB := Lib.hid (below_tr HB.out hb); clear hb)
      | ((with_reducible refine at_slot 26 ?_); refine wl_ld1 (v := .int .i64 x.f.t) rfl rfl rfl k1 Try.underlying2 rfl rfl ?_)
      | ((with_reducible refine at_slot 29 ?_); refine wl_ld1 (v := .int .i64 x.l.t) rfl rfl rfl k1 Try.underlying2 rfl rfl ?_)
      | ((with_reducible refine at_slot 34 ?_); refine wl_ld1 (v := .int .i64 x.n) rfl rfl rfl k1 Try.underlying2 rfl rfl ?_)
      | ((with_reducible refine at_slot 37 ?_); refine wl_ld1 (v := .int .i64 x.l.t) rfl rfl rfl k1 Try.underlying2 rfl rfl ?_)
      | ((with_reducible refine at_slot 40 ?_); refine wl_ld1 (v := .int .i64 x.f.t) rfl rfl rfl k1 Try.underlying2 rfl rfl ?_)
      | ((with_reducible refine at_slot 46 ?_); refine wl_ld1 (v := .int .i64 x.n) rfl rfl rfl k1 Try.underlying2 rfl rfl ?_)
      | ((with_reducible refine at_slot 50 ?_); refine wl_ld (evA x.f) rfl rfl rfl k1 Try.underlying24 rfl evInfo (ceA_pf x) ?_)
      | ((with_reducible refine at_slot 52 ?_); refine wl_ld (evA x.l) rfl rfl rfl k1 Try.underlying24 rfl evInfo (ceA_pl x) ?_)
      | ((with_reducible refine at_slot 53 ?_); refine wl_bin (v := .bool false) rfl rfl (run_eqGuard_agg _ _ _ _ _ _ _ (by kernel_rfl)) (ev_neq_yes H5.out _) ?_)
      | ((with_reducible refine at_slot 57 ?_); refine wl_ld1 (v := .int .i64 x.n) rfl rfl rfl k1 Try.underlying2 rfl rfl ?_)
      | ((with_reducible refine at_slot 62 ?_); refine wl_ld1 (v := .int .i64 x.f.t) rfl rfl rfl k1 Try.underlying2 rfl rfl ?_)
      | ((with_reducible refine at_slot 65 ?_); refine wl_ld1 (v := .int .i64 x.l.t) rfl rfl rfl k1 Try.underlying2 rfl rfl ?_)
      | ((with_reducible refine at_slot 70 ?_); refine wl_ld1 (v := .int .i64 x.r) rfl rfl rfl k1 Try.underlying2 rfl rfl ?_)
      | ((with_reducible refine at_slot 74 ?_); refine wl_ld1 (v := .int .i64 x.g) rfl rfl rfl k1 Try.underlying2 rfl rfl ?_)
      | ((with_reducible refine at_slot 79 ?_); refine wl_ld1 (v := .int .i64 x.s) rfl rfl rfl k1 Try.underlying2 rfl rfl ?_)
      | ((with_reducible refine at_slot 84 ?_); refine wl_ld1 (v := .int .i64 x.r) rfl rfl rfl k1 Try.underlying2 rfl rfl ?_)
      | ((with_reducible refine at_slot 86 ?_); refine wl_ld1 (v := .int .i64 x.n) rfl rfl rfl k1 Try.underlying2 rfl rfl ?_)
      | ((with_reducible refine at_slot 91 ?_); refine wl_ld1 (v := .int .i64 x.g) rfl rfl rfl k1 Try.underlying2 rfl rfl ?_)
      | ((with_reducible refine at_slot 93 ?_); refine wl_ld1 (v := .int .i64 x.n) rfl rfl rfl k1 Try.underlying2 rfl rfl ?_)
      | ((with_reducible refine at_slot 98 ?_); refine wl_ld1 (v := .int .i64 x.r) rfl rfl rfl k1 Try.underlying2 rfl rfl ?_)
      | ((with_reducible refine at_slot 100 ?_); refine wl_ld1 (v := .int .i64 x.g) rfl rfl rfl k1 Try.underlying2 rfl rfl ?_)
      | ((with_reducible refine at_slot 103 ?_); refine wl_ld1 (v := .int .i64 x.n) rfl rfl rfl k1 Try.underlying2 rfl rfl ?_)
      | ((with_reducible refine at_slot 108 ?_); refine wl_ld1 (v := .int .i64 x.s) rfl rfl rfl k1 Try.underlying2 rfl rfl ?_)
      | ((with_reducible refine at_slot 111 ?_); refine wl_ld1 (v := .int .i64 x.l.t) rfl rfl rfl k1 Try.underlying2 rfl rfl ?_)
      | ((with_reducible refine at_slot 114 ?_); refine wl_ld1 (v := .int .i64 x.f.t) rfl rfl rfl k1 Try.underlying2 rfl rfl ?_)
      | ((with_reducible refine at_slot 121 ?_); refine wl_ld1 (v := .int .i64 x.n) rfl rfl rfl k1 Try.underlying2 rfl rfl ?_)
      | ((with_reducible refine at_slot 124 ?_); refine wl_call rfl rfl Try.func28 (by kernel_rfl) rfl (HM.out _) rfl ?_; intro V3 hb; replace k1 := k1.keep hb; replace HB := Lib.hid (below_tr HB.out hb); clear hb)
      | ((with_reducible refine at_slot 3 ?_); refine wl_alloc (A := (wdA U.zero)) rfl rfl wd_zero rfl ?_; intro W2 g2 k2 hb hle; have n1_2 := Lib.hid (Blk.ne_of_le k1 hle); have L2 := Lib.hid (Nat.le_trans HB.out.size hle); replace k1 := k1.keep hb; replace HB := Lib.hid (below_tr HB.out hb); clear hb hle)
      | ((with_reducible refine at_store 3 ?_); refine wl_st0 (A' := (wdA M)) rfl rfl rfl rfl k2 rfl wdInfo (wdA_one M) ?_; intro V4 kn hu; replace k1 := k1.upd hu n1_2.out; replace HB := Lib.hid (upd_below HB.out hu L2.out); clear k2; have k2 : Blk _ g2 _ (wdA M) := kn; clear kn hu)
      | ((with_reducible refine at_slot 127 ?_); refine wl_ld0 rfl rfl rfl k2 Try.underlying26 rfl wdInfo ?_)
      | ((with_reducible refine at_slot 129 ?_); refine wl_ld (wdA x.i) rfl rfl rfl k1 Try.underlying26 rfl wdInfo (ceA_pi x) ?_)
      | ((with_reducible refine at_slot 130 ?_); refine wl_call rfl rfl Try.func29 (by kernel_rfl) rfl (HL2.out _) rfl ?_; intro V5 hb; replace k1 := k1.keep hb; replace k2 := k2.keep hb; replace HB := Lib.hid (below_tr HB.out hb); clear hb))
  go_ret
  exact ⟨rfl, HB.out⟩
end Go.Proofs.Ytjdjebhimljedaa
