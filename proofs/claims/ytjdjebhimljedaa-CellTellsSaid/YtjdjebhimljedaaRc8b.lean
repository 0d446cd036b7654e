/-
  THE DOCUMENT'S ANSWERS for cells: plimsollref08.Check, of two events or more.
-/
import Derived.Test.YtjdjebhimljedaaRc8
namespace Go.Proofs.Ytjdjebhimljedaa
open Go Go.RowKit

set_option maxHeartbeats 4000000 in
set_option maxRecDepth 100000 in
theorem rc_h02 {x : Ce} (hi : CeIn x) (hz : ¬ x = zeroCe) (h : ¬ x.n < 1) (hf : EvOk x.f) (hl : EvOk x.l) (h2 : ¬ x.l.t < x.f.t) (h3 : ¬ x.l.t - x.f.t + 1 < x.n) (h4 : ¬ x.n = 1) (h5 : ¬ x.f.t = x.l.t) (t0 : x.r < 0) (w : World) :
    Calls Try.prog 14 #[.agg (ceA x)] w fun e w' => e = .returned (.int .i64 2) ∧ Below w.heap.size w w' := by
  have q0 := hi.n0; have q1 := hi.n1; have q2 := hi.r0; have q3 := hi.r1; have q4 := hi.g0; have q5 := hi.g1; have q6 := hi.s0; have q7 := hi.s1
  have d1 : decide (x.n < 1) = false := by simp <;> omega
  have u1 := hf.t0; have u2 := hf.t1; have u3 := hl.t0; have u4 := hl.t1
  have i1 : IntKind.i64.wrap (x.l.t - x.f.t) = x.l.t - x.f.t := by rw [IntKind.wrap_i64]; omega
  have i2 : IntKind.i64.wrap (x.l.t - x.f.t + 1) = x.l.t - x.f.t + 1 := by rw [IntKind.wrap_i64]; omega
  have d2 : decide (x.l.t < x.f.t) = false := by simp <;> omega
  have d3 : decide (x.l.t - x.f.t + 1 < x.n) = false := by simp <;> omega
  have d4 : (x.n == 1) = false := by simp <;> omega
  have d5 : decide (1 < x.n) = true := by simp <;> omega
  have d6 : (x.f.t == x.l.t) = false := by simp <;> omega
  have d10 : decide (x.r < 0) = true := by simp <;> omega
  have HZ := Lib.hid hz
  have HF := Lib.hid hf
  have HL := Lib.hid hl
  have HI := Lib.hid hi
  clear hz hf hl hi
  have HB := Lib.hid (Below.refl w.heap.size w)
  go_enter Try.func14, Try.ntmps14
  go_wp2_with (first
      | ((with_reducible refine at_slot 1 ?_); refine wl_box (A := (ceA x)) rfl rfl rfl ?_; intro W1 g1 k1 hb hle; have L1 := Lib.hid (Nat.le_trans HB.out.size hle); replace HB := Lib.hid (below_tr HB.out hb); clear hb hle)
      | ((with_reducible refine at_slot 5 ?_); refine wl_ld0 rfl rfl rfl k1 Try.underlying28 rfl ceInfo ?_)
      | ((with_reducible refine at_slot 6 ?_); refine wl_build (v := .agg (ceA zeroCe)) rfl rfl (build_ce0 _) rfl ?_)
      | ((with_reducible refine at_slot 7 ?_); refine wl_bin (v := .bool false) rfl rfl (run_eqGuard_agg _ _ _ _ _ _ _ (by kernel_rfl)) (ce_eql_no HZ.out _) ?_)
      | ((with_reducible refine at_slot 9 ?_); refine wl_ld1 (v := .int .i64 x.n) rfl rfl rfl k1 Try.underlying2 rfl rfl ?_)
      | ((with_reducible refine at_slot 13 ?_); refine wl_ld (evA x.f) rfl rfl rfl k1 Try.underlying24 rfl evInfo (ceA_pf x) ?_)
      | ((with_reducible refine at_slot 14 ?_); refine wl_call rfl rfl Try.func27 (by kernel_rfl) rfl (rev_yes HF.out _) rfl ?_; intro V1 hb; replace k1 := k1.keep hb; replace HB := Lib.hid (below_tr HB.out hb); clear hb)
      | ((with_reducible refine at_slot 19 ?_); refine wl_ld (evA x.l) rfl rfl rfl k1 Try.underlying24 rfl evInfo (ceA_pl x) ?_)
      | ((with_reducible refine at_slot 20 ?_); refine wl_call rfl rfl Try.func27 (by kernel_rfl) rfl (rev_yes HL.out _) rfl ?_; intro V2 hb; replace k1 := k1.keep hb; replace HB := Lib.hid (below_tr HB.out hb); clear hb)
      | ((with_reducible refine at_slot 26 ?_); refine wl_ld1 (v := .int .i64 x.f.t) rfl rfl rfl k1 Try.underlying2 rfl rfl ?_)
      | ((with_reducible refine at_slot 29 ?_); refine wl_ld1 (v := .int .i64 x.l.t) rfl rfl rfl k1 Try.underlying2 rfl rfl ?_)
      | ((with_reducible refine at_slot 34 ?_); refine wl_ld1 (v := .int .i64 x.n) rfl rfl rfl k1 Try.underlying2 rfl rfl ?_)
      | ((with_reducible refine at_slot 37 ?_); refine wl_ld1 (v := .int .i64 x.l.t) rfl rfl rfl k1 Try.underlying2 rfl rfl ?_)
      | ((with_reducible refine at_slot 40 ?_); refine wl_ld1 (v := .int .i64 x.f.t) rfl rfl rfl k1 Try.underlying2 rfl rfl ?_)
      | ((with_reducible refine at_slot 46 ?_); refine wl_ld1 (v := .int .i64 x.n) rfl rfl rfl k1 Try.underlying2 rfl rfl ?_)
      | ((with_reducible refine at_slot 50 ?_); refine wl_ld (evA x.f) rfl rfl rfl k1 Try.underlying24 rfl evInfo (ceA_pf x) ?_)
      | ((with_reducible refine at_slot 52 ?_); refine wl_ld (evA x.l) rfl rfl rfl k1 Try.underlying24 rfl evInfo (ceA_pl x) ?_)
      | ((with_reducible refine at_slot 57 ?_); refine wl_ld1 (v := .int .i64 x.n) rfl rfl rfl k1 Try.underlying2 rfl rfl ?_)
      | ((with_reducible refine at_slot 62 ?_); refine wl_ld1 (v := .int .i64 x.f.t) rfl rfl rfl k1 Try.underlying2 rfl rfl ?_)
      | ((with_reducible refine at_slot 65 ?_); refine wl_ld1 (v := .int .i64 x.l.t) rfl rfl rfl k1 Try.underlying2 rfl rfl ?_)
      | ((with_reducible refine at_slot 70 ?_); refine wl_ld1 (v := .int .i64 x.r) rfl rfl rfl k1 Try.underlying2 rfl rfl ?_)
      | ((with_reducible refine at_slot 74 ?_); refine wl_ld1 (v := .int .i64 x.g) rfl rfl rfl k1 Try.underlying2 rfl rfl ?_)
      | ((with_reducible refine at_slot 79 ?_); refine wl_ld1 (v := .int .i64 x.s) rfl rfl rfl k1 Try.underlying2 rfl rfl ?_)
      | ((with_reducible refine at_slot 84 ?_); refine wl_ld1 (v := .int .i64 x.r) rfl rfl rfl k1 Try.underlying2 rfl rfl ?_)
      | ((with_reducible refine at_slot 86 ?_); refine wl_ld1 (v := .int .i64 x.n) rfl rfl rfl k1 Try.underlying2 rfl rfl ?_)
      | ((with_reducible refine at_slot 91 ?_); refine wl_ld1 (v := .int .i64 x.g) rfl rfl rfl k1 Try.underlying2 rfl rfl ?_)
      | ((with_reducible refine at_slot 93 ?_); refine wl_ld1 (v := .int .i64 x.n) rfl rfl rfl k1 Try.underlying2 rfl rfl ?_)
      | ((with_reducible refine at_slot 98 ?_); refine wl_ld1 (v := .int .i64 x.r) rfl rfl rfl k1 Try.underlying2 rfl rfl ?_)
      | ((with_reducible refine at_slot 100 ?_); refine wl_ld1 (v := .int .i64 x.g) rfl rfl rfl k1 Try.underlying2 rfl rfl ?_)
      | ((with_reducible refine at_slot 103 ?_); refine wl_ld1 (v := .int .i64 x.n) rfl rfl rfl k1 Try.underlying2 rfl rfl ?_)
      | ((with_reducible refine at_slot 108 ?_); refine wl_ld1 (v := .int .i64 x.s) rfl rfl rfl k1 Try.underlying2 rfl rfl ?_)
      | ((with_reducible refine at_slot 111 ?_); refine wl_ld1 (v := .int .i64 x.l.t) rfl rfl rfl k1 Try.underlying2 rfl rfl ?_)
      | ((with_reducible refine at_slot 114 ?_); refine wl_ld1 (v := .int .i64 x.f.t) rfl rfl rfl k1 Try.underlying2 rfl rfl ?_))
  go_ret
  exact ⟨rfl, HB.out⟩
set_option maxHeartbeats 4000000 in
set_option maxRecDepth 100000 in
theorem rc_h12 {x : Ce} (hi : CeIn x) (hz : ¬ x = zeroCe) (h : ¬ x.n < 1) (hf : EvOk x.f) (hl : EvOk x.l) (h2 : ¬ x.l.t < x.f.t) (h3 : ¬ x.l.t - x.f.t + 1 < x.n) (h4 : ¬ x.n = 1) (h5 : ¬ x.f.t = x.l.t) (t0 : ¬ x.r < 0) (t1 : x.g < 0) (w : World) :
    Calls Try.prog 14 #[.agg (ceA x)] w fun e w' => e = .returned (.int .i64 2) ∧ Below w.heap.size w w' := by
  have q0 := hi.n0; have q1 := hi.n1; have q2 := hi.r0; have q3 := hi.r1; have q4 := hi.g0; have q5 := hi.g1; have q6 := hi.s0; have q7 := hi.s1
  have d1 : decide (x.n < 1) = false := by simp <;> omega
  have u1 := hf.t0; have u2 := hf.t1; have u3 := hl.t0; have u4 := hl.t1
  have i1 : IntKind.i64.wrap (x.l.t - x.f.t) = x.l.t - x.f.t := by rw [IntKind.wrap_i64]; omega
  have i2 : IntKind.i64.wrap (x.l.t - x.f.t + 1) = x.l.t - x.f.t + 1 := by rw [IntKind.wrap_i64]; omega
  have d2 : decide (x.l.t < x.f.t) = false := by simp <;> omega
  have d3 : decide (x.l.t - x.f.t + 1 < x.n) = false := by simp <;> omega
  have d4 : (x.n == 1) = false := by simp <;> omega
  have d5 : decide (1 < x.n) = true := by simp <;> omega
  have d6 : (x.f.t == x.l.t) = false := by simp <;> omega
  have d10 : decide (x.r < 0) = false := by simp <;> omega
  have d11 : decide (x.g < 0) = true := by simp <;> omega
  have HZ := Lib.hid hz
  have HF := Lib.hid hf
  have HL := Lib.hid hl
  have HI := Lib.hid hi
  clear hz hf hl hi
  have HB := Lib.hid (Below.refl w.heap.size w)
  go_enter Try.func14, Try.ntmps14
  go_wp2_with (first
      | ((with_reducible refine at_slot 1 ?_); refine wl_box (A := (ceA x)) rfl rfl rfl ?_; intro W1 g1 k1 hb hle; have L1 := Lib.hid (Nat.le_trans HB.out.size hle); replace HB := Lib.hid (below_tr HB.out hb); clear hb hle)
      | ((with_reducible refine at_slot 5 ?_); refine wl_ld0 rfl rfl rfl k1 Try.underlying28 rfl ceInfo ?_)
      | ((with_reducible refine at_slot 6 ?_); refine wl_build (v := .agg (ceA zeroCe)) rfl rfl (build_ce0 _) rfl ?_)
      | ((with_reducible refine at_slot 7 ?_); refine wl_bin (v := .bool false) rfl rfl (run_eqGuard_agg _ _ _ _ _ _ _ (by kernel_rfl)) (ce_eql_no HZ.out _) ?_)
      | ((with_reducible refine at_slot 9 ?_); refine wl_ld1 (v := .int .i64 x.n) rfl rfl rfl k1 Try.underlying2 rfl rfl ?_)
      | ((with_reducible refine at_slot 13 ?_); refine wl_ld (evA x.f) rfl rfl rfl k1 Try.underlying24 rfl evInfo (ceA_pf x) ?_)
      | ((with_reducible refine at_slot 14 ?_); refine wl_call rfl rfl Try.func27 (by kernel_rfl) rfl (rev_yes HF.out _) rfl ?_; intro V1 hb; replace k1 := k1.keep hb; replace HB := Lib.hid (below_tr HB.out hb); clear hb)
      | ((with_reducible refine at_slot 19 ?_); refine wl_ld (evA x.l) rfl rfl rfl k1 Try.underlying24 rfl evInfo (ceA_pl x) ?_)
      | ((with_reducible refine at_slot 20 ?_); refine wl_call rfl rfl Try.func27 (by kernel_rfl) rfl (rev_yes HL.out _) rfl ?_; intro V2 hb; replace k1 := k1.keep hb; replace HB := Lib.hid (below_tr HB.out hb); clear hb)
      | ((with_reducible refine at_slot 26 ?_); refine wl_ld1 (v := .int .i64 x.f.t) rfl rfl rfl k1 Try.underlying2 rfl rfl ?_)
      | ((with_reducible refine at_slot 29 ?_); refine wl_ld1 (v := .int .i64 x.l.t) rfl rfl rfl k1 Try.underlying2 rfl rfl ?_)
      | ((with_reducible refine at_slot 34 ?_); refine wl_ld1 (v := .int .i64 x.n) rfl rfl rfl k1 Try.underlying2 rfl rfl ?_)
      | ((with_reducible refine at_slot 37 ?_); refine wl_ld1 (v := .int .i64 x.l.t) rfl rfl rfl k1 Try.underlying2 rfl rfl ?_)
      | ((with_reducible refine at_slot 40 ?_); refine wl_ld1 (v := .int .i64 x.f.t) rfl rfl rfl k1 Try.underlying2 rfl rfl ?_)
      | ((with_reducible refine at_slot 46 ?_); refine wl_ld1 (v := .int .i64 x.n) rfl rfl rfl k1 Try.underlying2 rfl rfl ?_)
      | ((with_reducible refine at_slot 50 ?_); refine wl_ld (evA x.f) rfl rfl rfl k1 Try.underlying24 rfl evInfo (ceA_pf x) ?_)
      | ((with_reducible refine at_slot 52 ?_); refine wl_ld (evA x.l) rfl rfl rfl k1 Try.underlying24 rfl evInfo (ceA_pl x) ?_)
      | ((with_reducible refine at_slot 57 ?_); refine wl_ld1 (v := .int .i64 x.n) rfl rfl rfl k1 Try.underlying2 rfl rfl ?_)
      | ((with_reducible refine at_slot 62 ?_); refine wl_ld1 (v := .int .i64 x.f.t) rfl rfl rfl k1 Try.underlying2 rfl rfl ?_)
      | ((with_reducible refine at_slot 65 ?_); refine wl_ld1 (v := .int .i64 x.l.t) rfl rfl rfl k1 Try.underlying2 rfl rfl ?_)
      | ((with_reducible refine at_slot 70 ?_); refine wl_ld1 (v := .int .i64 x.r) rfl rfl rfl k1 Try.underlying2 rfl rfl ?_)
      | ((with_reducible refine at_slot 74 ?_); refine wl_ld1 (v := .int .i64 x.g) rfl rfl rfl k1 Try.underlying2 rfl rfl ?_)
      | ((with_reducible refine at_slot 79 ?_); refine wl_ld1 (v := .int .i64 x.s) rfl rfl rfl k1 Try.underlying2 rfl rfl ?_)
      | ((with_reducible refine at_slot 84 ?_); refine wl_ld1 (v := .int .i64 x.r) rfl rfl rfl k1 Try.underlying2 rfl rfl ?_)
      | ((with_reducible refine at_slot 86 ?_); refine wl_ld1 (v := .int .i64 x.n) rfl rfl rfl k1 Try.underlying2 rfl rfl ?_)
      | ((with_reducible refine at_slot 91 ?_); refine wl_ld1 (v := .int .i64 x.g) rfl rfl rfl k1 Try.underlying2 rfl rfl ?_)
      | ((with_reducible refine at_slot 93 ?_); refine wl_ld1 (v := .int .i64 x.n) rfl rfl rfl k1 Try.underlying2 rfl rfl ?_)
      | ((with_reducible refine at_slot 98 ?_); refine wl_ld1 (v := .int .i64 x.r) rfl rfl rfl k1 Try.underlying2 rfl rfl ?_)
      | ((with_reducible refine at_slot 100 ?_); refine wl_ld1 (v := .int .i64 x.g) rfl rfl rfl k1 Try.underlying2 rfl rfl ?_)
      | ((with_reducible refine at_slot 103 ?_); refine wl_ld1 (v := .int .i64 x.n) rfl rfl rfl k1 Try.underlying2 rfl rfl ?_)
      | ((with_reducible refine at_slot 108 ?_); refine wl_ld1 (v := .int .i64 x.s) rfl rfl rfl k1 Try.underlying2 rfl rfl ?_)
      | ((with_reducible refine at_slot 111 ?_); refine wl_ld1 (v := .int .i64 x.l.t) rfl rfl rfl k1 Try.underlying2 rfl rfl ?_)
      | ((with_reducible refine at_slot 114 ?_); refine wl_ld1 (v := .int .i64 x.f.t) rfl rfl rfl k1 Try.underlying2 rfl rfl ?_))
  go_ret
  exact ⟨rfl, HB.out⟩
set_option maxHeartbeats 4000000 in
set_option maxRecDepth 100000 in
theorem rc_h22 {x : Ce} (hi : CeIn x) (hz : ¬ x = zeroCe) (h : ¬ x.n < 1) (hf : EvOk x.f) (hl : EvOk x.l) (h2 : ¬ x.l.t < x.f.t) (h3 : ¬ x.l.t - x.f.t + 1 < x.n) (h4 : ¬ x.n = 1) (h5 : ¬ x.f.t = x.l.t) (t0 : ¬ x.r < 0) (t1 : ¬ x.g < 0) (t2 : x.s < 0) (w : World) :
    Calls Try.prog 14 #[.agg (ceA x)] w fun e w' => e = .returned (.int .i64 2) ∧ Below w.heap.size w w' := by
  have q0 := hi.n0; have q1 := hi.n1; have q2 := hi.r0; have q3 := hi.r1; have q4 := hi.g0; have q5 := hi.g1; have q6 := hi.s0; have q7 := hi.s1
  have d1 : decide (x.n < 1) = false := by simp <;> omega
  have u1 := hf.t0; have u2 := hf.t1; have u3 := hl.t0; have u4 := hl.t1
  have i1 : IntKind.i64.wrap (x.l.t - x.f.t) = x.l.t - x.f.t := by rw [IntKind.wrap_i64]; omega
  have i2 : IntKind.i64.wrap (x.l.t - x.f.t + 1) = x.l.t - x.f.t + 1 := by rw [IntKind.wrap_i64]; omega
  have d2 : decide (x.l.t < x.f.t) = false := by simp <;> omega
  have d3 : decide (x.l.t - x.f.t + 1 < x.n) = false := by simp <;> omega
  have d4 : (x.n == 1) = false := by simp <;> omega
  have d5 : decide (1 < x.n) = true := by simp <;> omega
  have d6 : (x.f.t == x.l.t) = false := by simp <;> omega
  have d10 : decide (x.r < 0) = false := by simp <;> omega
  have d11 : decide (x.g < 0) = false := by simp <;> omega
  have d12 : decide (x.s < 0) = true := by simp <;> omega
  have HZ := Lib.hid hz
  have HF := Lib.hid hf
  have HL := Lib.hid hl
  have HI := Lib.hid hi
  clear hz hf hl hi
  have HB := Lib.hid (Below.refl w.heap.size w)
  go_enter Try.func14, Try.ntmps14
  go_wp2_with (first
      | ((with_reducible refine at_slot 1 ?_); refine wl_box (A := (ceA x)) rfl rfl rfl ?_; intro W1 g1 k1 hb hle; have L1 := Lib.hid (Nat.le_trans HB.out.size hle); replace HB := Lib.hid (below_tr HB.out hb); clear hb hle)
      | ((with_reducible refine at_slot 5 ?_); refine wl_ld0 rfl rfl rfl k1 Try.underlying28 rfl ceInfo ?_)
      | ((with_reducible refine at_slot 6 ?_); refine wl_build (v := .agg (ceA zeroCe)) rfl rfl (build_ce0 _) rfl ?_)
      | ((with_reducible refine at_slot 7 ?_); refine wl_bin (v := .bool false) rfl rfl (run_eqGuard_agg _ _ _ _ _ _ _ (by kernel_rfl)) (ce_eql_no HZ.out _) ?_)
      | ((with_reducible refine at_slot 9 ?_); refine wl_ld1 (v := .int .i64 x.n) rfl rfl rfl k1 Try.underlying2 rfl rfl ?_)
      | ((with_reducible refine at_slot 13 ?_); refine wl_ld (evA x.f) rfl rfl rfl k1 Try.underlying24 rfl evInfo (ceA_pf x) ?_)
      | ((with_reducible refine at_slot 14 ?_); refine wl_call rfl rfl Try.func27 (by kernel_rfl) rfl (rev_yes HF.out _) rfl ?_; intro V1 hb; replace k1 := k1.keep hb; replace HB := Lib.hid (below_tr HB.out hb); clear hb)
      | ((with_reducible refine at_slot 19 ?_); refine wl_ld (evA x.l) rfl rfl rfl k1 Try.underlying24 rfl evInfo (ceA_pl x) ?_)
      | ((with_reducible refine at_slot 20 ?_); refine wl_call rfl rfl Try.func27 (by kernel_rfl) rfl (rev_yes HL.out _) rfl ?_; intro V2 hb; replace k1 := k1.keep hb; replace HB := Lib.hid (below_tr HB.out hb); clear hb)
      | ((with_reducible refine at_slot 26 ?_); refine wl_ld1 (v := .int .i64 x.f.t) rfl rfl rfl k1 Try.underlying2 rfl rfl ?_)
      | ((with_reducible refine at_slot 29 ?_); refine wl_ld1 (v := .int .i64 x.l.t) rfl rfl rfl k1 Try.underlying2 rfl rfl ?_)
      | ((with_reducible refine at_slot 34 ?_); refine wl_ld1 (v := .int .i64 x.n) rfl rfl rfl k1 Try.underlying2 rfl rfl ?_)
      | ((with_reducible refine at_slot 37 ?_); refine wl_ld1 (v := .int .i64 x.l.t) rfl rfl rfl k1 Try.underlying2 rfl rfl ?_)
      | ((with_reducible refine at_slot 40 ?_); refine wl_ld1 (v := .int .i64 x.f.t) rfl rfl rfl k1 Try.underlying2 rfl rfl ?_)
      | ((with_reducible refine at_slot 46 ?_); refine wl_ld1 (v := .int .i64 x.n) rfl rfl rfl k1 Try.underlying2 rfl rfl ?_)
      | ((with_reducible refine at_slot 50 ?_); refine wl_ld (evA x.f) rfl rfl rfl k1 Try.underlying24 rfl evInfo (ceA_pf x) ?_)
      | ((with_reducible refine at_slot 52 ?_); refine wl_ld (evA x.l) rfl rfl rfl k1 Try.underlying24 rfl evInfo (ceA_pl x) ?_)
      | ((with_reducible refine at_slot 57 ?_); refine wl_ld1 (v := .int .i64 x.n) rfl rfl rfl k1 Try.underlying2 rfl rfl ?_)
      | ((with_reducible refine at_slot 62 ?_); refine wl_ld1 (v := .int .i64 x.f.t) rfl rfl rfl k1 Try.underlying2 rfl rfl ?_)
      | ((with_reducible refine at_slot 65 ?_); refine wl_ld1 (v := .int .i64 x.l.t) rfl rfl rfl k1 Try.underlying2 rfl rfl ?_)
      | ((with_reducible refine at_slot 70 ?_); refine wl_ld1 (v := .int .i64 x.r) rfl rfl rfl k1 Try.underlying2 rfl rfl ?_)
      | ((with_reducible refine at_slot 74 ?_); refine wl_ld1 (v := .int .i64 x.g) rfl rfl rfl k1 Try.underlying2 rfl rfl ?_)
      | ((with_reducible refine at_slot 79 ?_); refine wl_ld1 (v := .int .i64 x.s) rfl rfl rfl k1 Try.underlying2 rfl rfl ?_)
      | ((with_reducible refine at_slot 84 ?_); refine wl_ld1 (v := .int .i64 x.r) rfl rfl rfl k1 Try.underlying2 rfl rfl ?_)
      | ((with_reducible refine at_slot 86 ?_); refine wl_ld1 (v := .int .i64 x.n) rfl rfl rfl k1 Try.underlying2 rfl rfl ?_)
      | ((with_reducible refine at_slot 91 ?_); refine wl_ld1 (v := .int .i64 x.g) rfl rfl rfl k1 Try.underlying2 rfl rfl ?_)
      | ((with_reducible refine at_slot 93 ?_); refine wl_ld1 (v := .int .i64 x.n) rfl rfl rfl k1 Try.underlying2 rfl rfl ?_)
      | ((with_reducible refine at_slot 98 ?_); refine wl_ld1 (v := .int .i64 x.r) rfl rfl rfl k1 Try.underlying2 rfl rfl ?_)
      | ((with_reducible refine at_slot 100 ?_); refine wl_ld1 (v := .int .i64 x.g) rfl rfl rfl k1 Try.underlying2 rfl rfl ?_)
      | ((with_reducible refine at_slot 103 ?_); refine wl_ld1 (v := .int .i64 x.n) rfl rfl rfl k1 Try.underlying2 rfl rfl ?_)
      | ((with_reducible refine at_slot 108 ?_); refine wl_ld1 (v := .int .i64 x.s) rfl rfl rfl k1 Try.underlying2 rfl rfl ?_)
      | ((with_reducible refine at_slot 111 ?_); refine wl_ld1 (v := .int .i64 x.l.t) rfl rfl rfl k1 Try.underlying2 rfl rfl ?_)
      | ((with_reducible refine at_slot 114 ?_); refine wl_ld1 (v := .int .i64 x.f.t) rfl rfl rfl k1 Try.underlying2 rfl rfl ?_))
  go_ret
  exact ⟨rfl, HB.out⟩
set_option maxHeartbeats 4000000 in
set_option maxRecDepth 100000 in
theorem rc_h32 {x : Ce} (hi : CeIn x) (hz : ¬ x = zeroCe) (h : ¬ x.n < 1) (hf : EvOk x.f) (hl : EvOk x.l) (h2 : ¬ x.l.t < x.f.t) (h3 : ¬ x.l.t - x.f.t + 1 < x.n) (h4 : ¬ x.n = 1) (h5 : ¬ x.f.t = x.l.t) (t0 : ¬ x.r < 0) (t1 : ¬ x.g < 0) (t2 : ¬ x.s < 0) (t3 : x.n ≤ x.r) (w : World) :
    Calls Try.prog 14 #[.agg (ceA x)] w fun e w' => e = .returned (.int .i64 2) ∧ Below w.heap.size w w' := by
  have q0 := hi.n0; have q1 := hi.n1; have q2 := hi.r0; have q3 := hi.r1; have q4 := hi.g0; have q5 := hi.g1; have q6 := hi.s0; have q7 := hi.s1
  have d1 : decide (x.n < 1) = false := by simp <;> omega
  have u1 := hf.t0; have u2 := hf.t1; have u3 := hl.t0; have u4 := hl.t1
  have i1 : IntKind.i64.wrap (x.l.t - x.f.t) = x.l.t - x.f.t := by rw [IntKind.wrap_i64]; omega
  have i2 : IntKind.i64.wrap (x.l.t - x.f.t + 1) = x.l.t - x.f.t + 1 := by rw [IntKind.wrap_i64]; omega
  have d2 : decide (x.l.t < x.f.t) = false := by simp <;> omega
  have d3 : decide (x.l.t - x.f.t + 1 < x.n) = false := by simp <;> omega
  have d4 : (x.n == 1) = false := by simp <;> omega
  have d5 : decide (1 < x.n) = true := by simp <;> omega
  have d6 : (x.f.t == x.l.t) = false := by simp <;> omega
  have d10 : decide (x.r < 0) = false := by simp <;> omega
  have d11 : decide (x.g < 0) = false := by simp <;> omega
  have d12 : decide (x.s < 0) = false := by simp <;> omega
  have d13 : decide (x.n ≤ x.r) = true := by simp <;> omega
  have HZ := Lib.hid hz
  have HF := Lib.hid hf
  have HL := Lib.hid hl
  have HI := Lib.hid hi
  clear hz hf hl hi
  have HB := Lib.hid (Below.refl w.heap.size w)
  go_enter Try.func14, Try.ntmps14
  go_wp2_with (first
      | ((with_reducible refine at_slot 1 ?_); refine wl_box (A := (ceA x)) rfl rfl rfl ?_; intro W1 g1 k1 hb hle; have L1 := Lib.hid (Nat.le_trans HB.out.size hle); replace HB := Lib.hid (below_tr HB.out hb); clear hb hle)
      | ((with_reducible refine at_slot 5 ?_); refine wl_ld0 rfl rfl rfl k1 Try.underlying28 rfl ceInfo ?_)
      | ((with_reducible refine at_slot 6 ?_); refine wl_build (v := .agg (ceA zeroCe)) rfl rfl (build_ce0 _) rfl ?_)
      | ((with_reducible refine at_slot 7 ?_); refine wl_bin (v := .bool false) rfl rfl (run_eqGuard_agg _ _ _ _ _ _ _ (by kernel_rfl)) (ce_eql_no HZ.out _) ?_)
      | ((with_reducible refine at_slot 9 ?_); refine wl_ld1 (v := .int .i64 x.n) rfl rfl rfl k1 Try.underlying2 rfl rfl ?_)
      | ((with_reducible refine at_slot 13 ?_); refine wl_ld (evA x.f) rfl rfl rfl k1 Try.underlying24 rfl evInfo (ceA_pf x) ?_)
      | ((with_reducible refine at_slot 14 ?_); refine wl_call rfl rfl Try.func27 (by kernel_rfl) rfl (rev_yes HF.out _) rfl ?_; intro V1 hb; replace k1 := k1.keep hb; replace HB := Lib.hid (below_tr HB.out hb); clear hb)
      | ((with_reducible refine at_slot 19 ?_); refine wl_ld (evA x.l) rfl rfl rfl k1 Try.underlying24 rfl evInfo (ceA_pl x) ?_)
      | ((with_reducible refine at_slot 20 ?_); refine wl_call rfl rfl Try.func27 (by kernel_rfl) rfl (rev_yes HL.out _) rfl ?_; intro V2 hb; replace k1 := k1.keep hb; replace HB := Lib.hid (below_tr HB.out hb); clear hb)
      | ((with_reducible refine at_slot 26 ?_); refine wl_ld1 (v := .int .i64 x.f.t) rfl rfl rfl k1 Try.underlying2 rfl rfl ?_)
      | ((with_reducible refine at_slot 29 ?_); refine wl_ld1 (v := .int .i64 x.l.t) rfl rfl rfl k1 Try.underlying2 rfl rfl ?_)
      | ((with_reducible refine at_slot 34 ?_); refine wl_ld1 (v := .int .i64 x.n) rfl rfl rfl k1 Try.underlying2 rfl rfl ?_)
      | ((with_reducible refine at_slot 37 ?_); refine wl_ld1 (v := .int .i64 x.l.t) rfl rfl rfl k1 Try.underlying2 rfl rfl ?_)
      | ((with_reducible refine at_slot 40 ?_); refine wl_ld1 (v := .int .i64 x.f.t) rfl rfl rfl k1 Try.underlying2 rfl rfl ?_)
      | ((with_reducible refine at_slot 46 ?_); refine wl_ld1 (v := .int .i64 x.n) rfl rfl rfl k1 Try.underlying2 rfl rfl ?_)
      | ((with_reducible refine at_slot 50 ?_); refine wl_ld (evA x.f) rfl rfl rfl k1 Try.underlying24 rfl evInfo (ceA_pf x) ?_)
      | ((with_reducible refine at_slot 52 ?_); refine wl_ld (evA x.l) rfl rfl rfl k1 Try.underlying24 rfl evInfo (ceA_pl x) ?_)
      | ((with_reducible refine at_slot 57 ?_); refine wl_ld1 (v := .int .i64 x.n) rfl rfl rfl k1 Try.underlying2 rfl rfl ?_)
      | ((with_reducible refine at_slot 62 ?_); refine wl_ld1 (v := .int .i64 x.f.t) rfl rfl rfl k1 Try.underlying2 rfl rfl ?_)
      | ((with_reducible refine at_slot 65 ?_); refine wl_ld1 (v := .int .i64 x.l.t) rfl rfl rfl k1 Try.underlying2 rfl rfl ?_)
      | ((with_reducible refine at_slot 70 ?_); refine wl_ld1 (v := .int .i64 x.r) rfl rfl rfl k1 Try.underlying2 rfl rfl ?_)
      | ((with_reducible refine at_slot 74 ?_); refine wl_ld1 (v := .int .i64 x.g) rfl rfl rfl k1 Try.underlying2 rfl rfl ?_)
      | ((with_reducible refine at_slot 79 ?_); refine wl_ld1 (v := .int .i64 x.s) rfl rfl rfl k1 Try.underlying2 rfl rfl ?_)
      | ((with_reducible refine at_slot 84 ?_); refine wl_ld1 (v := .int .i64 x.r) rfl rfl rfl k1 Try.underlying2 rfl rfl ?_)
      | ((with_reducible refine at_slot 86 ?_); refine wl_ld1 (v := .int .i64 x.n) rfl rfl rfl k1 Try.underlying2 rfl rfl ?_)
      | ((with_reducible refine at_slot 91 ?_); refine wl_ld1 (v := .int .i64 x.g) rfl rfl rfl k1 Try.underlying2 rfl rfl ?_)
      | ((with_reducible refine at_slot 93 ?_); refine wl_ld1 (v := .int .i64 x.n) rfl rfl rfl k1 Try.underlying2 rfl rfl ?_)
      | ((with_reducible refine at_slot 98 ?_); refine wl_ld1 (v := .int .i64 x.r) rfl rfl rfl k1 Try.underlying2 rfl rfl ?_)
      | ((with_reducible refine at_slot 100 ?_); refine wl_ld1 (v := .int .i64 x.g) rfl rfl rfl k1 Try.underlying2 rfl rfl ?_)
      | ((with_reducible refine at_slot 103 ?_); refine wl_ld1 (v := .int .i64 x.n) rfl rfl rfl k1 Try.underlying2 rfl rfl ?_)
      | ((with_reducible refine at_slot 108 ?_); refine wl_ld1 (v := .int .i64 x.s) rfl rfl rfl k1 Try.underlying2 rfl rfl ?_)
      | ((with_reducible refine at_slot 111 ?_); refine wl_ld1 (v := .int .i64 x.l.t) rfl rfl rfl k1 Try.underlying2 rfl rfl ?_)
      | ((with_reducible refine at_slot 114 ?_); refine wl_ld1 (v := .int .i64 x.f.t) rfl rfl rfl k1 Try.underlying2 rfl rfl ?_))
  go_ret
  exact ⟨rfl, HB.out⟩
set_option maxHeartbeats 4000000 in
set_option maxRecDepth 100000 in
theorem rc_h42 {x : Ce} (hi : CeIn x) (hz : ¬ x = zeroCe) (h : ¬ x.n < 1) (hf : EvOk x.f) (hl : EvOk x.l) (h2 : ¬ x.l.t < x.f.t) (h3 : ¬ x.l.t - x.f.t + 1 < x.n) (h4 : ¬ x.n = 1) (h5 : ¬ x.f.t = x.l.t) (t0 : ¬ x.r < 0) (t1 : ¬ x.g < 0) (t2 : ¬ x.s < 0) (t3 : ¬ x.n ≤ x.r) (t4 : x.n ≤ x.g) (w : World) :
    Calls Try.prog 14 #[.agg (ceA x)] w fun e w' => e = .returned (.int .i64 2) ∧ Below w.heap.size w w' := by
  have q0 := hi.n0; have q1 := hi.n1; have q2 := hi.r0; have q3 := hi.r1; have q4 := hi.g0; have q5 := hi.g1; have q6 := hi.s0; have q7 := hi.s1
  have d1 : decide (x.n < 1) = false := by simp <;> omega
  have u1 := hf.t0; have u2 := hf.t1; have u3 := hl.t0; have u4 := hl.t1
  have i1 : IntKind.i64.wrap (x.l.t - x.f.t) = x.l.t - x.f.t := by rw [IntKind.wrap_i64]; omega
  have i2 : IntKind.i64.wrap (x.l.t - x.f.t + 1) = x.l.t - x.f.t + 1 := by rw [IntKind.wrap_i64]; omega
  have d2 : decide (x.l.t < x.f.t) = false := by simp <;> omega
  have d3 : decide (x.l.t - x.f.t + 1 < x.n) = false := by simp <;> omega
  have d4 : (x.n == 1) = false := by simp <;> omega
  have d5 : decide (1 < x.n) = true := by simp <;> omega
  have d6 : (x.f.t == x.l.t) = false := by simp <;> omega
  have d10 : decide (x.r < 0) = false := by simp <;> omega
  have d11 : decide (x.g < 0) = false := by simp <;> omega
  have d12 : decide (x.s < 0) = false := by simp <;> omega
  have d13 : decide (x.n ≤ x.r) = false := by simp <;> omega
  have d14 : decide (x.n ≤ x.g) = true := by simp <;> omega
  have HZ := Lib.hid hz
  have HF := Lib.hid hf
  have HL := Lib.hid hl
  have HI := Lib.hid hi
  clear hz hf hl hi
  have HB := Lib.hid (Below.refl w.heap.size w)
  go_enter Try.func14, Try.ntmps14
  go_wp2_with (first
      | ((with_reducible refine at_slot 1 ?_); refine wl_box (A := (ceA x)) rfl rfl rfl ?_; intro W1 g1 k1 hb hle; have L1 := Lib.hid (Nat.le_trans HB.out.size hle); replace HB := Lib.hid (below_tr HB.out hb); clear hb hle)
      | ((with_reducible refine at_slot 5 ?_); refine wl_ld0 rfl rfl rfl k1 Try.underlying28 rfl ceInfo ?_)
      | ((with_reducible refine at_slot 6 ?_); refine wl_build (v := .agg (ceA zeroCe)) rfl rfl (build_ce0 _) rfl ?_)
      | ((with_reducible refine at_slot 7 ?_); refine wl_bin (v := .bool false) rfl rfl (run_eqGuard_agg _ _ _ _ _ _ _ (by kernel_rfl)) (ce_eql_no HZ.out _) ?_)
      | ((with_reducible refine at_slot 9 ?_); refine wl_ld1 (v := .int .i64 x.n) rfl rfl rfl k1 Try.underlying2 rfl rfl ?_)
      | ((with_reducible refine at_slot 13 ?_); refine wl_ld (evA x.f) rfl rfl rfl k1 Try.underlying24 rfl evInfo (ceA_pf x) ?_)
      | ((with_reducible refine at_slot 14 ?_); refine wl_call rfl rfl Try.func27 (by kernel_rfl) rfl (rev_yes HF.out _) rfl ?_; intro V1 hb; replace k1 := k1.keep hb; replace HB := Lib.hid (below_tr HB.out hb); clear hb)
      | ((with_reducible refine at_slot 19 ?_); refine wl_ld (evA x.l) rfl rfl rfl k1 Try.underlying24 rfl evInfo (ceA_pl x) ?_)
      | ((with_reducible refine at_slot 20 ?_); refine wl_call rfl rfl Try.func27 (by kernel_rfl) rfl (rev_yes HL.out _) rfl ?_; intro V2 hb; replace k1 := k1.keep hb; replace HB := Lib.hid (below_tr HB.out hb); clear hb)
      | ((with_reducible refine at_slot 26 ?_); refine wl_ld1 (v := .int .i64 x.f.t) rfl rfl rfl k1 Try.underlying2 rfl rfl ?_)
      | ((with_reducible refine at_slot 29 ?_); refine wl_ld1 (v := .int .i64 x.l.t) rfl rfl rfl k1 Try.underlying2 rfl rfl ?_)
      | ((with_reducible refine at_slot 34 ?_); refine wl_ld1 (v := .int .i64 x.n) rfl rfl rfl k1 Try.underlying2 rfl rfl ?_)
      | ((with_reducible refine at_slot 37 ?_); refine wl_ld1 (v := .int .i64 x.l.t) rfl rfl rfl k1 Try.underlying2 rfl rfl ?_)
      | ((with_reducible refine at_slot 40 ?_); refine wl_ld1 (v := .int .i64 x.f.t) rfl rfl rfl k1 Try.underlying2 rfl rfl ?_)
      | ((with_reducible refine at_slot 46 ?_); refine wl_ld1 (v := .int .i64 x.n) rfl rfl rfl k1 Try.underlying2 rfl rfl ?_)
      | ((with_reducible refine at_slot 50 ?_); refine wl_ld (evA x.f) rfl rfl rfl k1 Try.underlying24 rfl evInfo (ceA_pf x) ?_)
      | ((with_reducible refine at_slot 52 ?_); refine wl_ld (evA x.l) rfl rfl rfl k1 Try.underlying24 rfl evInfo (ceA_pl x) ?_)
      | ((with_reducible refine at_slot 57 ?_); refine wl_ld1 (v := .int .i64 x.n) rfl rfl rfl k1 Try.underlying2 rfl rfl ?_)
      | ((with_reducible refine at_slot 62 ?_); refine wl_ld1 (v := .int .i64 x.f.t) rfl rfl rfl k1 Try.underlying2 rfl rfl ?_)
      | ((with_reducible refine at_slot 65 ?_); refine wl_ld1 (v := .int .i64 x.l.t) rfl rfl rfl k1 Try.underlying2 rfl rfl ?_)
      | ((with_reducible refine at_slot 70 ?_); refine wl_ld1 (v := .int .i64 x.r) rfl rfl rfl k1 Try.underlying2 rfl rfl ?_)
      | ((with_reducible refine at_slot 74 ?_); refine wl_ld1 (v := .int .i64 x.g) rfl rfl rfl k1 Try.underlying2 rfl rfl ?_)
      | ((with_reducible refine at_slot 79 ?_); refine wl_ld1 (v := .int .i64 x.s) rfl rfl rfl k1 Try.underlying2 rfl rfl ?_)
      | ((with_reducible refine at_slot 84 ?_); refine wl_ld1 (v := .int .i64 x.r) rfl rfl rfl k1 Try.underlying2 rfl rfl ?_)
      | ((with_reducible refine at_slot 86 ?_); refine wl_ld1 (v := .int .i64 x.n) rfl rfl rfl k1 Try.underlying2 rfl rfl ?_)
      | ((with_reducible refine at_slot 91 ?_); refine wl_ld1 (v := .int .i64 x.g) rfl rfl rfl k1 Try.underlying2 rfl rfl ?_)
      | ((with_reducible refine at_slot 93 ?_); refine wl_ld1 (v := .int .i64 x.n) rfl rfl rfl k1 Try.underlying2 rfl rfl ?_)
      | ((with_reducible refine at_slot 98 ?_); refine wl_ld1 (v := .int .i64 x.r) rfl rfl rfl k1 Try.underlying2 rfl rfl ?_)
      | ((with_reducible refine at_slot 100 ?_); refine wl_ld1 (v := .int .i64 x.g) rfl rfl rfl k1 Try.underlying2 rfl rfl ?_)
      | ((with_reducible refine at_slot 103 ?_); refine wl_ld1 (v := .int .i64 x.n) rfl rfl rfl k1 Try.underlying2 rfl rfl ?_)
      | ((with_reducible refine at_slot 108 ?_); refine wl_ld1 (v := .int .i64 x.s) rfl rfl rfl k1 Try.underlying2 rfl rfl ?_)
      | ((with_reducible refine at_slot 111 ?_); refine wl_ld1 (v := .int .i64 x.l.t) rfl rfl rfl k1 Try.underlying2 rfl rfl ?_)
      | ((with_reducible refine at_slot 114 ?_); refine wl_ld1 (v := .int .i64 x.f.t) rfl rfl rfl k1 Try.underlying2 rfl rfl ?_))
  go_ret
  exact ⟨rfl, HB.out⟩
set_option maxHeartbeats 4000000 in
set_option maxRecDepth 100000 in
theorem rc_h52 {x : Ce} (hi : CeIn x) (hz : ¬ x = zeroCe) (h : ¬ x.n < 1) (hf : EvOk x.f) (hl : EvOk x.l) (h2 : ¬ x.l.t < x.f.t) (h3 : ¬ x.l.t - x.f.t + 1 < x.n) (h4 : ¬ x.n = 1) (h5 : ¬ x.f.t = x.l.t) (t0 : ¬ x.r < 0) (t1 : ¬ x.g < 0) (t2 : ¬ x.s < 0) (t3 : ¬ x.n ≤ x.r) (t4 : ¬ x.n ≤ x.g) (t5 : x.n ≤ x.r + x.g) (w : World) :
    Calls Try.prog 14 #[.agg (ceA x)] w fun e w' => e = .returned (.int .i64 2) ∧ Below w.heap.size w w' := by
  have q0 := hi.n0; have q1 := hi.n1; have q2 := hi.r0; have q3 := hi.r1; have q4 := hi.g0; have q5 := hi.g1; have q6 := hi.s0; have q7 := hi.s1
  have d1 : decide (x.n < 1) = false := by simp <;> omega
  have u1 := hf.t0; have u2 := hf.t1; have u3 := hl.t0; have u4 := hl.t1
  have i1 : IntKind.i64.wrap (x.l.t - x.f.t) = x.l.t - x.f.t := by rw [IntKind.wrap_i64]; omega
  have i2 : IntKind.i64.wrap (x.l.t - x.f.t + 1) = x.l.t - x.f.t + 1 := by rw [IntKind.wrap_i64]; omega
  have d2 : decide (x.l.t < x.f.t) = false := by simp <;> omega
  have d3 : decide (x.l.t - x.f.t + 1 < x.n) = false := by simp <;> omega
  have d4 : (x.n == 1) = false := by simp <;> omega
  have d5 : decide (1 < x.n) = true := by simp <;> omega
  have d6 : (x.f.t == x.l.t) = false := by simp <;> omega
  have d10 : decide (x.r < 0) = false := by simp <;> omega
  have d11 : decide (x.g < 0) = false := by simp <;> omega
  have d12 : decide (x.s < 0) = false := by simp <;> omega
  have d13 : decide (x.n ≤ x.r) = false := by simp <;> omega
  have d14 : decide (x.n ≤ x.g) = false := by simp <;> omega
  have i3 : IntKind.i64.wrap (x.r + x.g) = x.r + x.g := by rw [IntKind.wrap_i64]; omega
  have d15 : decide (x.n ≤ x.r + x.g) = true := by simp <;> omega
  have HZ := Lib.hid hz
  have HF := Lib.hid hf
  have HL := Lib.hid hl
  have HI := Lib.hid hi
  clear hz hf hl hi
  have HB := Lib.hid (Below.refl w.heap.size w)
  go_enter Try.func14, Try.ntmps14
  go_wp2_with (first
      | ((with_reducible refine at_slot 1 ?_); refine wl_box (A := (ceA x)) rfl rfl rfl ?_; intro W1 g1 k1 hb hle; have L1 := Lib.hid (Nat.le_trans HB.out.size hle); replace HB := Lib.hid (below_tr HB.out hb); clear hb hle)
      | ((with_reducible refine at_slot 5 ?_); refine wl_ld0 rfl rfl rfl k1 Try.underlying28 rfl ceInfo ?_)
      | ((with_reducible refine at_slot 6 ?_); refine wl_build (v := .agg (ceA zeroCe)) rfl rfl (build_ce0 _) rfl ?_)
      | ((with_reducible refine at_slot 7 ?_); refine wl_bin (v := .bool false) rfl rfl (run_eqGuard_agg _ _ _ _ _ _ _ (by kernel_rfl)) (ce_eql_no HZ.out _) ?_)
      | ((with_reducible refine at_slot 9 ?_); refine wl_ld1 (v := .int .i64 x.n) rfl rfl rfl k1 Try.underlying2 rfl rfl ?_)
      | ((with_reducible refine at_slot 13 ?_); refine wl_ld (evA x.f) rfl rfl rfl k1 Try.underlying24 rfl evInfo (ceA_pf x) ?_)
      | ((with_reducible refine at_slot 14 ?_); refine wl_call rfl rfl Try.func27 (by kernel_rfl) rfl (rev_yes HF.out _) rfl ?_; intro V1 hb; replace k1 := k1.keep hb; replace HB := Lib.hid (below_tr HB.out hb); clear hb)
      | ((with_reducible refine at_slot 19 ?_); refine wl_ld (evA x.l) rfl rfl rfl k1 Try.underlying24 rfl evInfo (ceA_pl x) ?_)
      | ((with_reducible refine at_slot 20 ?_); refine wl_call rfl rfl Try.func27 (by kernel_rfl) rfl (rev_yes HL.out _) rfl ?_; intro V2 hb; replace k1 := k1.keep hb; replace HB := Lib.hid (below_tr HB.out hb); clear hb)
      | ((with_reducible refine at_slot 26 ?_); refine wl_ld1 (v := .int .i64 x.f.t) rfl rfl rfl k1 Try.underlying2 rfl rfl ?_)
      | ((with_reducible refine at_slot 29 ?_); refine wl_ld1 (v := .int .i64 x.l.t) rfl rfl rfl k1 Try.underlying2 rfl rfl ?_)
      | ((with_reducible refine at_slot 34 ?_); refine wl_ld1 (v := .int .i64 x.n) rfl rfl rfl k1 Try.underlying2 rfl rfl ?_)
      | ((with_reducible refine at_slot 37 ?_); refine wl_ld1 (v := .int .i64 x.l.t) rfl rfl rfl k1 Try.underlying2 rfl rfl ?_)
      | ((with_reducible refine at_slot 40 ?_); refine wl_ld1 (v := .int .i64 x.f.t) rfl rfl rfl k1 Try.underlying2 rfl rfl ?_)
      | ((with_reducible refine at_slot 46 ?_); refine wl_ld1 (v := .int .i64 x.n) rfl rfl rfl k1 Try.underlying2 rfl rfl ?_)
      | ((with_reducible refine at_slot 50 ?_); refine wl_ld (evA x.f) rfl rfl rfl k1 Try.underlying24 rfl evInfo (ceA_pf x) ?_)
      | ((with_reducible refine at_slot 52 ?_); refine wl_ld (evA x.l) rfl rfl rfl k1 Try.underlying24 rfl evInfo (ceA_pl x) ?_)
      | ((with_reducible refine at_slot 57 ?_); refine wl_ld1 (v := .int .i64 x.n) rfl rfl rfl k1 Try.underlying2 rfl rfl ?_)
      | ((with_reducible refine at_slot 62 ?_); refine wl_ld1 (v := .int .i64 x.f.t) rfl rfl rfl k1 Try.underlying2 rfl rfl ?_)
      | ((with_reducible refine at_slot 65 ?_); refine wl_ld1 (v := .int .i64 x.l.t) rfl rfl rfl k1 Try.underlying2 rfl rfl ?_)
      | ((with_reducible refine at_slot 70 ?_); refine wl_ld1 (v := .int .i64 x.r) rfl rfl rfl k1 Try.underlying2 rfl rfl ?_)
      | ((with_reducible refine at_slot 74 ?_); refine wl_ld1 (v := .int .i64 x.g) rfl rfl rfl k1 Try.underlying2 rfl rfl ?_)
      | ((with_reducible refine at_slot 79 ?_); refine wl_ld1 (v := .int .i64 x.s) rfl rfl rfl k1 Try.underlying2 rfl rfl ?_)
      | ((with_reducible refine at_slot 84 ?_); refine wl_ld1 (v := .int .i64 x.r) rfl rfl rfl k1 Try.underlying2 rfl rfl ?_)
      | ((with_reducible refine at_slot 86 ?_); refine wl_ld1 (v := .int .i64 x.n) rfl rfl rfl k1 Try.underlying2 rfl rfl ?_)
      | ((with_reducible refine at_slot 91 ?_); refine wl_ld1 (v := .int .i64 x.g) rfl rfl rfl k1 Try.underlying2 rfl rfl ?_)
      | ((with_reducible refine at_slot 93 ?_); refine wl_ld1 (v := .int .i64 x.n) rfl rfl rfl k1 Try.underlying2 rfl rfl ?_)
      | ((with_reducible refine at_slot 98 ?_); refine wl_ld1 (v := .int .i64 x.r) rfl rfl rfl k1 Try.underlying2 rfl rfl ?_)
      | ((with_reducible refine at_slot 100 ?_); refine wl_ld1 (v := .int .i64 x.g) rfl rfl rfl k1 Try.underlying2 rfl rfl ?_)
      | ((with_reducible refine at_slot 103 ?_); refine wl_ld1 (v := .int .i64 x.n) rfl rfl rfl k1 Try.underlying2 rfl rfl ?_)
      | ((with_reducible refine at_slot 108 ?_); refine wl_ld1 (v := .int .i64 x.s) rfl rfl rfl k1 Try.underlying2 rfl rfl ?_)
      | ((with_reducible refine at_slot 111 ?_); refine wl_ld1 (v := .int .i64 x.l.t) rfl rfl rfl k1 Try.underlying2 rfl rfl ?_)
      | ((with_reducible refine at_slot 114 ?_); refine wl_ld1 (v := .int .i64 x.f.t) rfl rfl rfl k1 Try.underlying2 rfl rfl ?_))
  go_ret
  exact ⟨rfl, HB.out⟩
set_option maxHeartbeats 4000000 in
set_option maxRecDepth 100000 in
theorem rc_h62 {x : Ce} (hi : CeIn x) (hz : ¬ x = zeroCe) (h : ¬ x.n < 1) (hf : EvOk x.f) (hl : EvOk x.l) (h2 : ¬ x.l.t < x.f.t) (h3 : ¬ x.l.t - x.f.t + 1 < x.n) (h4 : ¬ x.n = 1) (h5 : ¬ x.f.t = x.l.t) (t0 : ¬ x.r < 0) (t1 : ¬ x.g < 0) (t2 : ¬ x.s < 0) (t3 : ¬ x.n ≤ x.r) (t4 : ¬ x.n ≤ x.g) (t5 : ¬ x.n ≤ x.r + x.g) (t6 : x.l.t - x.f.t < x.s) (w : World) :
    Calls Try.prog 14 #[.agg (ceA x)] w fun e w' => e = .returned (.int .i64 2) ∧ Below w.heap.size w w' := by
  have q0 := hi.n0; have q1 := hi.n1; have q2 := hi.r0; have q3 := hi.r1; have q4 := hi.g0; have q5 := hi.g1; have q6 := hi.s0; have q7 := hi.s1
  have d1 : decide (x.n < 1) = false := by simp <;> omega
  have u1 := hf.t0; have u2 := hf.t1; have u3 := hl.t0; have u4 := hl.t1
  have i1 : IntKind.i64.wrap (x.l.t - x.f.t) = x.l.t - x.f.t := by rw [IntKind.wrap_i64]; omega
  have i2 : IntKind.i64.wrap (x.l.t - x.f.t + 1) = x.l.t - x.f.t + 1 := by rw [IntKind.wrap_i64]; omega
  have d2 : decide (x.l.t < x.f.t) = false := by simp <;> omega
  have d3 : decide (x.l.t - x.f.t + 1 < x.n) = false := by simp <;> omega
  have d4 : (x.n == 1) = false := by simp <;> omega
  have d5 : decide (1 < x.n) = true := by simp <;> omega
  have d6 : (x.f.t == x.l.t) = false := by simp <;> omega
  have d10 : decide (x.r < 0) = false := by simp <;> omega
  have d11 : decide (x.g < 0) = false := by simp <;> omega
  have d12 : decide (x.s < 0) = false := by simp <;> omega
  have d13 : decide (x.n ≤ x.r) = false := by simp <;> omega
  have d14 : decide (x.n ≤ x.g) = false := by simp <;> omega
  have i3 : IntKind.i64.wrap (x.r + x.g) = x.r + x.g := by rw [IntKind.wrap_i64]; omega
  have d15 : decide (x.n ≤ x.r + x.g) = false := by simp <;> omega
  have d16 : decide (x.l.t - x.f.t < x.s) = true := by simp <;> omega
  have HZ := Lib.hid hz
  have HF := Lib.hid hf
  have HL := Lib.hid hl
  have HI := Lib.hid hi
  clear hz hf hl hi
  have HB := Lib.hid (Below.refl w.heap.size w)
  go_enter Try.func14, Try.ntmps14
  go_wp2_with (first
      | ((with_reducible refine at_slot 1 ?_); refine wl_box (A := (ceA x)) rfl rfl rfl ?_; intro W1 g1 k1 hb hle; have L1 := Lib.hid (Nat.le_trans HB.out.size hle); replace HB := Lib.hid (below_tr HB.out hb); clear hb hle)
      | ((with_reducible refine at_slot 5 ?_); refine wl_ld0 rfl rfl rfl k1 Try.underlying28 rfl ceInfo ?_)
      | ((with_reducible refine at_slot 6 ?_); refine wl_build (v := .agg (ceA zeroCe)) rfl rfl (build_ce0 _) rfl ?_)
      | ((with_reducible refine at_slot 7 ?_); refine wl_bin (v := .bool false) rfl rfl (run_eqGuard_agg _ _ _ _ _ _ _ (by kernel_rfl)) (ce_eql_no HZ.out _) ?_)
      | ((with_reducible refine at_slot 9 ?_); refine wl_ld1 (v := .int .i64 x.n) rfl rfl rfl k1 Try.underlying2 rfl rfl ?_)
      | ((with_reducible refine at_slot 13 ?_); refine wl_ld (evA x.f) rfl rfl rfl k1 Try.underlying24 rfl evInfo (ceA_pf x) ?_)
      | ((with_reducible refine at_slot 14 ?_); refine wl_call rfl rfl Try.func27 (by kernel_rfl) rfl (rev_yes HF.out _) rfl ?_; intro V1 hb; replace k1 := k1.keep hb; replace HB := Lib.hid (below_tr HB.out hb); clear hb)
      | ((with_reducible refine at_slot 19 ?_); refine wl_ld (evA x.l) rfl rfl rfl k1 Try.underlying24 rfl evInfo (ceA_pl x) ?_)
      | ((with_reducible refine at_slot 20 ?_); refine wl_call rfl rfl Try.func27 (by kernel_rfl) rfl (rev_yes HL.out _) rfl ?_; intro V2 hb; replace k1 := k1.keep hb; replace HB := Lib.hid (below_tr HB.out hb); clear hb)
      | ((with_reducible refine at_slot 26 ?_); refine wl_ld1 (v := .int .i64 x.f.t) rfl rfl rfl k1 Try.underlying2 rfl rfl ?_)
      | ((with_reducible refine at_slot 29 ?_); refine wl_ld1 (v := .int .i64 x.l.t) rfl rfl rfl k1 Try.underlying2 rfl rfl ?_)
      | ((with_reducible refine at_slot 34 ?_); refine wl_ld1 (v := .int .i64 x.n) rfl rfl rfl k1 Try.underlying2 rfl rfl ?_)
      | ((with_reducible refine at_slot 37 ?_); refine wl_ld1 (v := .int .i64 x.l.t) rfl rfl rfl k1 Try.underlying2 rfl rfl ?_)
      | ((with_reducible refine at_slot 40 ?_); refine wl_ld1 (v := .int .i64 x.f.t) rfl rfl rfl k1 Try.underlying2 rfl rfl ?_)
      | ((with_reducible refine at_slot 46 ?_); refine wl_ld1 (v := .int .i64 x.n) rfl rfl rfl k1 Try.underlying2 rfl rfl ?_)
      | ((with_reducible refine at_slot 50 ?_); refine wl_ld (evA x.f) rfl rfl rfl k1 Try.underlying24 rfl evInfo (ceA_pf x) ?_)
      | ((with_reducible refine at_slot 52 ?_); refine wl_ld (evA x.l) rfl rfl rfl k1 Try.underlying24 rfl evInfo (ceA_pl x) ?_)
      | ((with_reducible refine at_slot 57 ?_); refine wl_ld1 (v := .int .i64 x.n) rfl rfl rfl k1 Try.underlying2 rfl rfl ?_)
      | ((with_reducible refine at_slot 62 ?_); refine wl_ld1 (v := .int .i64 x.f.t) rfl rfl rfl k1 Try.underlying2 rfl rfl ?_)
      | ((with_reducible refine at_slot 65 ?_); refine wl_ld1 (v := .int .i64 x.l.t) rfl rfl rfl k1 Try.underlying2 rfl rfl ?_)
      | ((with_reducible refine at_slot 70 ?_); refine wl_ld1 (v := .int .i64 x.r) rfl rfl rfl k1 Try.underlying2 rfl rfl ?_)
      | ((with_reducible refine at_slot 74 ?_); refine wl_ld1 (v := .int .i64 x.g) rfl rfl rfl k1 Try.underlying2 rfl rfl ?_)
      | ((with_reducible refine at_slot 79 ?_); refine wl_ld1 (v := .int .i64 x.s) rfl rfl rfl k1 Try.underlying2 rfl rfl ?_)
      | ((with_reducible refine at_slot 84 ?_); refine wl_ld1 (v := .int .i64 x.r) rfl rfl rfl k1 Try.underlying2 rfl rfl ?_)
      | ((with_reducible refine at_slot 86 ?_); refine wl_ld1 (v := .int .i64 x.n) rfl rfl rfl k1 Try.underlying2 rfl rfl ?_)
      | ((with_reducible refine at_slot 91 ?_); refine wl_ld1 (v := .int .i64 x.g) rfl rfl rfl k1 Try.underlying2 rfl rfl ?_)
      | ((with_reducible refine at_slot 93 ?_); refine wl_ld1 (v := .int .i64 x.n) rfl rfl rfl k1 Try.underlying2 rfl rfl ?_)
      | ((with_reducible refine at_slot 98 ?_); refine wl_ld1 (v := .int .i64 x.r) rfl rfl rfl k1 Try.underlying2 rfl rfl ?_)
      | ((with_reducible refine at_slot 100 ?_); refine wl_ld1 (v := .int .i64 x.g) rfl rfl rfl k1 Try.underlying2 rfl rfl ?_)
      | ((with_reducible refine at_slot 103 ?_); refine wl_ld1 (v := .int .i64 x.n) rfl rfl rfl k1 Try.underlying2 rfl rfl ?_)
      | ((with_reducible refine at_slot 108 ?_); refine wl_ld1 (v := .int .i64 x.s) rfl rfl rfl k1 Try.underlying2 rfl rfl ?_)
      | ((with_reducible refine at_slot 111 ?_); refine wl_ld1 (v := .int .i64 x.l.t) rfl rfl rfl k1 Try.underlying2 rfl rfl ?_)
      | ((with_reducible refine at_slot 114 ?_); refine wl_ld1 (v := .int .i64 x.f.t) rfl rfl rfl k1 Try.underlying2 rfl rfl ?_))
  go_ret
  exact ⟨rfl, HB.out⟩
set_option maxHeartbeats 4000000 in
set_option maxRecDepth 100000 in
theorem rc_it2 {x : Ce} (hi : CeIn x) (hz : ¬ x = zeroCe) (h : ¬ x.n < 1) (hf : EvOk x.f) (hl : EvOk x.l) (h2 : ¬ x.l.t < x.f.t) (h3 : ¬ x.l.t - x.f.t + 1 < x.n) (h4 : ¬ x.n = 1) (h5 : ¬ x.f.t = x.l.t) (t0 : ¬ x.r < 0) (t1 : ¬ x.g < 0) (t2 : ¬ x.s < 0) (t3 : ¬ x.n ≤ x.r) (t4 : ¬ x.n ≤ x.g) (t5 : ¬ x.n ≤ x.r + x.g) (t6 : ¬ x.l.t - x.f.t < x.s) (hb : lessB (timesU maxU (x.n - 1).toNat) x.i = true) (w : World) :
    Calls Try.prog 14 #[.agg (ceA x)] w fun e w' => e = .returned (.int .i64 2) ∧ Below w.heap.size w w' := by
  have q0 := hi.n0; have q1 := hi.n1; have q2 := hi.r0; have q3 := hi.r1; have q4 := hi.g0; have q5 := hi.g1; have q6 := hi.s0; have q7 := hi.s1
  have d1 : decide (x.n < 1) = false := by simp <;> omega
  have u1 := hf.t0; have u2 := hf.t1; have u3 := hl.t0; have u4 := hl.t1
  have i1 : IntKind.i64.wrap (x.l.t - x.f.t) = x.l.t - x.f.t := by rw [IntKind.wrap_i64]; omega
  have i2 : IntKind.i64.wrap (x.l.t - x.f.t + 1) = x.l.t - x.f.t + 1 := by rw [IntKind.wrap_i64]; omega
  have d2 : decide (x.l.t < x.f.t) = false := by simp <;> omega
  have d3 : decide (x.l.t - x.f.t + 1 < x.n) = false := by simp <;> omega
  have d4 : (x.n == 1) = false := by simp <;> omega
  have d5 : decide (1 < x.n) = true := by simp <;> omega
  have d6 : (x.f.t == x.l.t) = false := by simp <;> omega
  have d10 : decide (x.r < 0) = false := by simp <;> omega
  have d11 : decide (x.g < 0) = false := by simp <;> omega
  have d12 : decide (x.s < 0) = false := by simp <;> omega
  have d13 : decide (x.n ≤ x.r) = false := by simp <;> omega
  have d14 : decide (x.n ≤ x.g) = false := by simp <;> omega
  have i3 : IntKind.i64.wrap (x.r + x.g) = x.r + x.g := by rw [IntKind.wrap_i64]; omega
  have d15 : decide (x.n ≤ x.r + x.g) = false := by simp <;> omega
  have d16 : decide (x.l.t - x.f.t < x.s) = false := by simp <;> omega
  have hk : (x.n - 1).toNat < 18446744073709551616 := by omega
  have i4 : IntKind.i64.wrap (x.n - 1) = ((x.n - 1).toNat : Int) := by rw [IntKind.wrap_i64]; omega
  have i5 : IntKind.u64.wrap ((x.n - 1).toNat : Int) = ((x.n - 1).toNat : Int) := by rw [IntKind.wrap_u64]; omega
  have HK := Lib.hid hk
  obtain ⟨k, hkk⟩ : ∃ k, k = (x.n - 1).toNat := ⟨_, rfl⟩
  rw [← hkk] at i4 i5 HK
  have HM := Lib.hid (fun w => rmost HK.out w)
  obtain ⟨M, hM⟩ : ∃ M, M = timesU maxU k := ⟨_, rfl⟩
  rw [← hM] at HM
  have hlb : lessB M x.i = true := by rw [hM, hkk]; exact hb
  have HL2 := Lib.hid (fun w => rlessW M x.i w)
  rw [hlb] at HL2
  clear hlb hM hkk hk hb
  have HZ := Lib.hid hz
  have HF := Lib.hid hf
  have HL := Lib.hid hl
  have HI := Lib.hid hi
  clear hz hf hl hi
  have HB := Lib.hid (Below.refl w.heap.size w)
  go_enter Try.func14, Try.ntmps14
  go_wp2_with (first
      | ((with_reducible refine at_slot 1 ?_); refine wl_box (A := (ceA x)) rfl rfl rfl ?_; intro W1 g1 k1 hb hle; have L1 := Lib.hid (Nat.le_trans HB.out.size hle); replace HB := Lib.hid (below_tr HB.out hb); clear hb hle)
      | ((with_reducible refine at_slot 5 ?_); refine wl_ld0 rfl rfl rfl k1 Try.underlying28 rfl ceInfo ?_)
      | ((with_reducible refine at_slot 6 ?_); refine wl_build (v := .agg (ceA zeroCe)) rfl rfl (build_ce0 _) rfl ?_)
      | ((with_reducible refine at_slot 7 ?_); refine wl_bin (v := .bool false) rfl rfl (run_eqGuard_agg _ _ _ _ _ _ _ (by kernel_rfl)) (ce_eql_no HZ.out _) ?_)
      | ((with_reducible refine at_slot 9 ?_); refine wl_ld1 (v := .int .i64 x.n) rfl rfl rfl k1 Try.underlying2 rfl rfl ?_)
      | ((with_reducible refine at_slot 13 ?_); refine wl_ld (evA x.f) rfl rfl rfl k1 Try.underlying24 rfl evInfo (ceA_pf x) ?_)
      | ((with_reducible refine at_slot 14 ?_); refine wl_call rfl rfl Try.func27 (by kernel_rfl) rfl (rev_yes HF.out _) rfl ?_; intro V1 hb; replace k1 := k1.keep hb; replace HB := Lib.hid (below_tr HB.out hb); clear hb)
      | ((with_reducible refine at_slot 19 ?_); refine wl_ld (evA x.l) rfl rfl rfl k1 Try.underlying24 rfl evInfo (ceA_pl x) ?_)
      | ((with_reducible refine at_slot 20 ?_); refine wl_call rfl rfl Try.func27 (by kernel_rfl) rfl (rev_yes HL.out _) rfl ?_; intro V2 hb; replace k1 := k1.keep hb; replace HB := Lib.hid (below_tr HB.out hb); clear hb)
      | ((with_reducible refine at_slot 26 ?_); refine wl_ld1 (v := .int .i64 x.f.t) rfl rfl rfl k1 Try.underlying2 rfl rfl ?_)
      | ((with_reducible refine at_slot 29 ?_); refine wl_ld1 (v := .int .i64 x.l.t) rfl rfl rfl k1 Try.underlying2 rfl rfl ?_)
      | ((with_reducible refine at_slot 34 ?_); refine wl_ld1 (v := .int .i64 x.n) rfl rfl rfl k1 Try.underlying2 rfl rfl ?_)
      | ((with_reducible refine at_slot 37 ?_); refine wl_ld1 (v := .int .i64 x.l.t) rfl rfl rfl k1 Try.underlying2 rfl rfl ?_)
      | ((with_reducible refine at_slot 40 ?_); refine wl_ld1 (v := .int .i64 x.f.t) rfl rfl rfl k1 Try.underlying2 rfl rfl ?_)
      | ((with_reducible refine at_slot 46 ?_); refine wl_ld1 (v := .int .i64 x.n) rfl rfl rfl k1 Try.underlying2 rfl rfl ?_)
      | ((with_reducible refine at_slot 50 ?_); refine wl_ld (evA x.f) rfl rfl rfl k1 Try.underlying24 rfl evInfo (ceA_pf x) ?_)
      | ((with_reducible refine at_slot 52 ?_); refine wl_ld (evA x.l) rfl rfl rfl k1 Try.underlying24 rfl evInfo (ceA_pl x) ?_)
      | ((with_reducible refine at_slot 57 ?_); refine wl_ld1 (v := .int .i64 x.n) rfl rfl rfl k1 Try.underlying2 rfl rfl ?_)
      | ((with_reducible refine at_slot 62 ?_); refine wl_ld1 (v := .int .i64 x.f.t) rfl rfl rfl k1 Try.underlying2 rfl rfl ?_)
      | ((with_reducible refine at_slot 65 ?_); refine wl_ld1 (v := .int .i64 x.l.t) rfl rfl rfl k1 Try.underlying2 rfl rfl ?_)
      | ((with_reducible refine at_slot 70 ?_); refine wl_ld1 (v := .int .i64 x.r) rfl rfl rfl k1 Try.underlying2 rfl rfl ?_)
      | ((with_reducible refine at_slot 74 ?_); refine wl_ld1 (v := .int .i64 x.g) rfl rfl rfl k1 Try.underlying2 rfl rfl ?_)
      | ((with_reducible refine at_slot 79 ?_); refine wl_ld1 (v := .int .i64 x.s) rfl rfl rfl k1 Try.underlying2 rfl rfl ?_)
      | ((with_reducible refine at_slot 84 ?_); refine wl_ld1 (v := .int .i64 x.r) rfl rfl rfl k1 Try.underlying2 rfl rfl ?_)
      | ((with_reducible refine at_slot 86 ?_); refine wl_ld1 (v := .int .i64 x.n) rfl rfl rfl k1 Try.underlying2 rfl rfl ?_)
      | ((with_reducible refine at_slot 91 ?_); refine wl_ld1 (v := .int .i64 x.g) rfl rfl rfl k1 Try.underlying2 rfl rfl ?_)
      | ((with_reducible refine at_slot 93 ?_); refine wl_ld1 (v := .int .i64 x.n) rfl rfl rfl k1 Try.underlying2 rfl rfl ?_)
      | ((with_reducible refine at_slot 98 ?_); refine wl_ld1 (v := .int .i64 x.r) rfl rfl rfl k1 Try.underlying2 rfl rfl ?_)
      | ((with_reducible refine at_slot 100 ?_); refine wl_ld1 (v := .int .i64 x.g) rfl rfl rfl k1 Try.underlying2 rfl rfl ?_)
      | ((with_reducible refine at_slot 103 ?_); refine wl_ld1 (v := .int .i64 x.n) rfl rfl rfl k1 Try.underlying2 rfl rfl ?_)
      | ((with_reducible refine at_slot 108 ?_); refine wl_ld1 (v := .int .i64 x.s) rfl rfl rfl k1 Try.underlying2 rfl rfl ?_)
      | ((with_reducible refine at_slot 111 ?_); refine wl_ld1 (v := .int .i64 x.l.t) rfl rfl rfl k1 Try.underlying2 rfl rfl ?_)
      | ((with_reducible refine at_slot 114 ?_); refine wl_ld1 (v := .int .i64 x.f.t) rfl rfl rfl k1 Try.underlying2 rfl rfl ?_)
      | ((with_reducible refine at_slot 121 ?_); refine wl_ld1 (v := .int .i64 x.n) rfl rfl rfl k1 Try.underlying2 rfl rfl ?_)
      | ((with_reducible refine at_slot 124 ?_); refine wl_call rfl rfl Try.func28 (by kernel_rfl) rfl (HM.out _) rfl ?_; intro V3 hb; replace k1 := k1.keep hb; replace HB := Lib.hid (below_tr HB.out hb); clear hb)
      | ((with_reducible refine at_slot 3 ?_); refine wl_alloc (A := (wdA U.zero)) rfl rfl wd_zero rfl ?_; intro W2 g2 k2 hb hle; have n1_2 := Lib.hid (Blk.ne_of_le k1 hle); have L2 := Lib.hid (Nat.le_trans HB.out.size hle); replace k1 := k1.keep hb; replace HB := Lib.hid (below_tr HB.out hb); clear hb hle)
      | ((with_reducible refine at_store 3 ?_); refine wl_st0 (A' := (wdA M)) rfl rfl rfl rfl k2 rfl wdInfo (wdA_one M) ?_; intro V4 kn hu; replace k1 := k1.upd hu n1_2.out; replace HB := Lib.hid (upd_below HB.out hu L2.out); clear k2; have k2 : Blk _ g2 _ (wdA M) := kn; clear kn hu)
      | ((with_reducible refine at_slot 127 ?_); refine wl_ld0 rfl rfl rfl k2 Try.underlying26 rfl wdInfo ?_)
      | ((with_reducible refine at_slot 129 ?_); refine wl_ld (wdA x.i) rfl rfl rfl k1 Try.underlying26 rfl wdInfo (ceA_pi x) ?_)
      | ((with_reducible refine at_slot 130 ?_); refine wl_call rfl rfl Try.func29 (by kernel_rfl) rfl (HL2.out _) rfl ?_; intro V5 hb; replace k1 := k1.keep hb; replace k2 := k2.keep hb; replace HB := Lib.hid (below_tr HB.out hb); clear hb))
  go_ret
  exact ⟨rfl, HB.out⟩
set_option maxHeartbeats 4000000 in
set_option maxRecDepth 100000 in
theorem rc_if2 {x : Ce} (hi : CeIn x) (hz : ¬ x = zeroCe) (h : ¬ x.n < 1) (hf : EvOk x.f) (hl : EvOk x.l) (h2 : ¬ x.l.t < x.f.t) (h3 : ¬ x.l.t - x.f.t + 1 < x.n) (h4 : ¬ x.n = 1) (h5 : ¬ x.f.t = x.l.t) (t0 : ¬ x.r < 0) (t1 : ¬ x.g < 0) (t2 : ¬ x.s < 0) (t3 : ¬ x.n ≤ x.r) (t4 : ¬ x.n ≤ x.g) (t5 : ¬ x.n ≤ x.r + x.g) (t6 : ¬ x.l.t - x.f.t < x.s) (hb : lessB (timesU maxU (x.n - 1).toNat) x.i = false) (w : World) :
    Calls Try.prog 14 #[.agg (ceA x)] w fun e w' => e = .returned (.int .i64 0) ∧ Below w.heap.size w w' := by
  have q0 := hi.n0; have q1 := hi.n1; have q2 := hi.r0; have q3 := hi.r1; have q4 := hi.g0; have q5 := hi.g1; have q6 := hi.s0; have q7 := hi.s1
  have d1 : decide (x.n < 1) = false := by simp <;> omega
  have u1 := hf.t0; have u2 := hf.t1; have u3 := hl.t0; have u4 := hl.t1
  have i1 : IntKind.i64.wrap (x.l.t - x.f.t) = x.l.t - x.f.t := by rw [IntKind.wrap_i64]; omega
  have i2 : IntKind.i64.wrap (x.l.t - x.f.t + 1) = x.l.t - x.f.t + 1 := by rw [IntKind.wrap_i64]; omega
  have d2 : decide (x.l.t < x.f.t) = false := by simp <;> omega
  have d3 : decide (x.l.t - x.f.t + 1 < x.n) = false := by simp <;> omega
  have d4 : (x.n == 1) = false := by simp <;> omega
  have d5 : decide (1 < x.n) = true := by simp <;> omega
  have d6 : (x.f.t == x.l.t) = false := by simp <;> omega
  have d10 : decide (x.r < 0) = false := by simp <;> omega
  have d11 : decide (x.g < 0) = false := by simp <;> omega
  have d12 : decide (x.s < 0) = false := by simp <;> omega
  have d13 : decide (x.n ≤ x.r) = false := by simp <;> omega
  have d14 : decide (x.n ≤ x.g) = false := by simp <;> omega
  have i3 : IntKind.i64.wrap (x.r + x.g) = x.r + x.g := by rw [IntKind.wrap_i64]; omega
  have d15 : decide (x.n ≤ x.r + x.g) = false := by simp <;> omega
  have d16 : decide (x.l.t - x.f.t < x.s) = false := by simp <;> omega
  have hk : (x.n - 1).toNat < 18446744073709551616 := by omega
  have i4 : IntKind.i64.wrap (x.n - 1) = ((x.n - 1).toNat : Int) := by rw [IntKind.wrap_i64]; omega
  have i5 : IntKind.u64.wrap ((x.n - 1).toNat : Int) = ((x.n - 1).toNat : Int) := by rw [IntKind.wrap_u64]; omega
  have HK := Lib.hid hk
  obtain ⟨k, hkk⟩ : ∃ k, k = (x.n - 1).toNat := ⟨_, rfl⟩
  rw [← hkk] at i4 i5 HK
  have HM := Lib.hid (fun w => rmost HK.out w)
  obtain ⟨M, hM⟩ : ∃ M, M = timesU maxU k := ⟨_, rfl⟩
  rw [← hM] at HM
  have hlb : lessB M x.i = false := by rw [hM, hkk]; exact hb
  have HL2 := Lib.hid (fun w => rlessW M x.i w)
  rw [hlb] at HL2
  clear hlb hM hkk hk hb
  have HZ := Lib.hid hz
  have HF := Lib.hid hf
  have HL := Lib.hid hl
  have HI := Lib.hid hi
  clear hz hf hl hi
  have HB := Lib.hid (Below.refl w.heap.size w)
  go_enter Try.func14, Try.ntmps14
  go_wp2_with (first
      | ((with_reducible refine at_slot 1 ?_); refine wl_box (A := (ceA x)) rfl rfl rfl ?_; intro W1 g1 k1 hb hle; have L1 := Lib.hid (Nat.le_trans HB.out.size hle); replace HB := Lib.hid (below_tr HB.out hb); clear hb hle)
      | ((with_reducible refine at_slot 5 ?_); refine wl_ld0 rfl rfl rfl k1 Try.underlying28 rfl ceInfo ?_)
      | ((with_reducible refine at_slot 6 ?_); refine wl_build (v := .agg (ceA zeroCe)) rfl rfl (build_ce0 _) rfl ?_)
      | ((with_reducible refine at_slot 7 ?_); refine wl_bin (v := .bool false) rfl rfl (run_eqGuard_agg _ _ _ _ _ _ _ (by kernel_rfl)) (ce_eql_no HZ.out _) ?_)
      | ((with_reducible refine at_slot 9 ?_); refine wl_ld1 (v := .int .i64 x.n) rfl rfl rfl k1 Try.underlying2 rfl rfl ?_)
      | ((with_reducible refine at_slot 13 ?_); refine wl_ld (evA x.f) rfl rfl rfl k1 Try.underlying24 rfl evInfo (ceA_pf x) ?_)
      | ((with_reducible refine at_slot 14 ?_); refine wl_call rfl rfl Try.func27 (by kernel_rfl) rfl (rev_yes HF.out _) rfl ?_; intro V1 hb; replace k1 := k1.keep hb; replace HB := Lib.hid (below_tr HB.out hb); clear hb)
      | ((with_reducible refine at_slot 19 ?_); refine wl_ld (evA x.l) rfl rfl rfl k1 Try.underlying24 rfl evInfo (ceA_pl x) ?_)
      | ((with_reducible refine at_slot 20 ?_); refine wl_call rfl rfl Try.func27 (by kernel_rfl) rfl (rev_yes HL.out _) rfl ?_; intro V2 hb; replace k1 := k1.keep hb; replace HB := Lib.hid (below_tr HB.out hb); clear hb)
      | ((with_reducible refine at_slot 26 ?_); refine wl_ld1 (v := .int .i64 x.f.t) rfl rfl rfl k1 Try.underlying2 rfl rfl ?_)
      | ((with_reducible refine at_slot 29 ?_); refine wl_ld1 (v := .int .i64 x.l.t) rfl rfl rfl k1 Try.underlying2 rfl rfl ?_)
      | ((with_reducible refine at_slot 34 ?_); refine wl_ld1 (v := .int .i64 x.n) rfl rfl rfl k1 Try.underlying2 rfl rfl ?_)
      | ((with_reducible refine at_slot 37 ?_); refine wl_ld1 (v := .int .i64 x.l.t) rfl rfl rfl k1 Try.underlying2 rfl rfl ?_)
      | ((with_reducible refine at_slot 40 ?_); refine wl_ld1 (v := .int .i64 x.f.t) rfl rfl rfl k1 Try.underlying2 rfl rfl ?_)
      | ((with_reducible refine at_slot 46 ?_); refine wl_ld1 (v := .int .i64 x.n) rfl rfl rfl k1 Try.underlying2 rfl rfl ?_)
      | ((with_reducible refine at_slot 50 ?_); refine wl_ld (evA x.f) rfl rfl rfl k1 Try.underlying24 rfl evInfo (ceA_pf x) ?_)
      | ((with_reducible refine at_slot 52 ?_); refine wl_ld (evA x.l) rfl rfl rfl k1 Try.underlying24 rfl evInfo (ceA_pl x) ?_)
      | ((with_reducible refine at_slot 57 ?_); refine wl_ld1 (v := .int .i64 x.n) rfl rfl rfl k1 Try.underlying2 rfl rfl ?_)
      | ((with_reducible refine at_slot 62 ?_); refine wl_ld1 (v := .int .i64 x.f.t) rfl rfl rfl k1 Try.underlying2 rfl rfl ?_)
      | ((with_reducible refine at_slot 65 ?_); refine wl_ld1 (v := .int .i64 x.l.t) rfl rfl rfl k1 Try.underlying2 rfl rfl ?_)
      | ((with_reducible refine at_slot 70 ?_); refine wl_ld1 (v := .int .i64 x.r) rfl rfl rfl k1 Try.underlying2 rfl rfl ?_)
      | ((with_reducible refine at_slot 74 ?_); refine wl_ld1 (v := .int .i64 x.g) rfl rfl rfl k1 Try.underlying2 rfl rfl ?_)
      | ((with_reducible refine at_slot 79 ?_); refine wl_ld1 (v := .int .i64 x.s) rfl rfl rfl k1 Try.underlying2 rfl rfl ?_)
      | ((with_reducible refine at_slot 84 ?_); refine wl_ld1 (v := .int .i64 x.r) rfl rfl rfl k1 Try.underlying2 rfl rfl ?_)
      | ((with_reducible refine at_slot 86 ?_); refine wl_ld1 (v := .int .i64 x.n) rfl rfl rfl k1 Try.underlying2 rfl rfl ?_)
      | ((with_reducible refine at_slot 91 ?_); refine wl_ld1 (v := .int .i64 x.g) rfl rfl rfl k1 Try.underlying2 rfl rfl ?_)
      | ((with_reducible refine at_slot 93 ?_); refine wl_ld1 (v := .int .i64 x.n) rfl rfl rfl k1 Try.underlying2 rfl rfl ?_)
      | ((with_reducible refine at_slot 98 ?_); refine wl_ld1 (v := .int .i64 x.r) rfl rfl rfl k1 Try.underlying2 rfl rfl ?_)
      | ((with_reducible refine at_slot 100 ?_); refine wl_ld1 (v := .int .i64 x.g) rfl rfl rfl k1 Try.underlying2 rfl rfl ?_)
      | ((with_reducible refine at_slot 103 ?_); refine wl_ld1 (v := .int .i64 x.n) rfl rfl rfl k1 Try.underlying2 rfl rfl ?_)
      | ((with_reducible refine at_slot 108 ?_); refine wl_ld1 (v := .int .i64 x.s) rfl rfl rfl k1 Try.underlying2 rfl rfl ?_)
      | ((with_reducible refine at_slot 111 ?_); refine wl_ld1 (v := .int .i64 x.l.t) rfl rfl rfl k1 Try.underlying2 rfl rfl ?_)
      | ((with_reducible refine at_slot 114 ?_); refine wl_ld1 (v := .int .i64 x.f.t) rfl rfl rfl k1 Try.underlying2 rfl rfl ?_)
      | ((with_reducible refine at_slot 121 ?_); refine wl_ld1 (v := .int .i64 x.n) rfl rfl rfl k1 Try.underlying2 rfl rfl ?_)
      | ((with_reducible refine at_slot 124 ?_); refine wl_call rfl rfl Try.func28 (by kernel_rfl) rfl (HM.out _) rfl ?_; intro V3 hb; replace k1 := k1.keep hb; replace HB := Lib.hid (below_tr HB.out hb); clear hb)
      | ((with_reducible refine at_slot 3 ?_); refine wl_alloc (A := (wdA U.zero)) rfl rfl wd_zero rfl ?_; intro W2 g2 k2 hb hle; have n1_2 := Lib.hid (Blk.ne_of_le k1 hle); have L2 := Lib.hid (Nat.le_trans HB.out.size hle); replace k1 := k1.keep hb; replace HB := Lib.hid (below_tr HB.out hb); clear hb hle)
      | ((with_reducible refine at_store 3 ?_); refine wl_st0 (A' := (wdA M)) rfl rfl rfl rfl k2 rfl wdInfo (wdA_one M) ?_; intro V4 kn hu; replace k1 := k1.upd hu n1_2.out; replace HB := Lib.hid (upd_below HB.out hu L2.out); clear k2; have k2 : Blk _ g2 _ (wdA M) := kn; clear kn hu)
      | ((with_reducible refine at_slot 127 ?_); refine wl_ld0 rfl rfl rfl k2 Try.underlying26 rfl wdInfo ?_)
      | ((with_reducible refine at_slot 129 ?_); refine wl_ld (wdA x.i) rfl rfl rfl k1 Try.underlying26 rfl wdInfo (ceA_pi x) ?_)
      | ((with_reducible refine at_slot 130 ?_); refine wl_call rfl rfl Try.func29 (by kernel_rfl) rfl (HL2.out _) rfl ?_; intro V5 hb; replace k1 := k1.keep hb; replace k2 := k2.keep hb; replace HB := Lib.hid (below_tr HB.out hb); clear hb))
  go_ret
  exact ⟨rfl, HB.out⟩
theorem rc_ok {x : Ce} (hi : CeIn x) (h : CeOk x) (w : World) : Calls Try.prog 14 #[.agg (ceA x)] w fun e w' => e = .returned (.int .i64 0) ∧ Below w.heap.size w w' := by
  by_cases hz : x = zeroCe
  · exact rc_zero hi hz w
  · rcases h with h | ⟨he, hn⟩
    · exact absurd h hz
    · have a1 := he.n; have a2 := he.t; have a3 := he.le; have n1 := hn.r; have n2 := hn.g; have n3 := hn.s; have n4 := hn.s1; have n5 := hn.rg
      have hb : lessB (timesU maxU (x.n - 1).toNat) x.i = false := by
        have hk := CeIn.n1 hi
        have n6 := hn.i
        unfold lessB timesU
        have hk' : (x.n - 1).toNat < 18446744073709551616 := by omega
        rw [show maxU.n = 18446744073709551615 from rfl, cutU_n (most_n hk')]
        simp only [decide_eq_false_iff_not]
        omega
      by_cases h1 : x.n = 1
      · exact rc_if1 hi hz (by omega) he.f he.l (by omega) (by omega) h1 (he.one h1) (by omega) (by omega) (by omega) (by omega) (by omega) (by omega) (by omega) hb w
      · have hm := he.more (by omega)
        exact rc_if2 hi hz (by omega) he.f he.l (by omega) (by omega) h1 (by omega) (by omega) (by omega) (by omega) (by omega) (by omega) (by omega) (by omega) hb w
theorem rc_bad {x : Ce} (hi : CeIn x) (h : ¬ CeOk x) (w : World) : Calls Try.prog 14 #[.agg (ceA x)] w fun e w' => e = .returned (.int .i64 2) ∧ Below w.heap.size w w' := by
  have hz : ¬ x = zeroCe := fun e => h (Or.inl e)
  by_cases a0 : x.n < 1
  · exact rc_a hi hz a0 w
  by_cases f : EvOk x.f
  rotate_left
  · exact rc_b hi hz a0 f w
  by_cases l : EvOk x.l
  rotate_left
  · exact rc_c hi hz a0 f l w
  by_cases a2 : x.l.t < x.f.t
  · exact rc_d hi hz a0 f l a2 w
  by_cases a3 : x.l.t - x.f.t + 1 < x.n
  · exact rc_e hi hz a0 f l a2 a3 w
  have fin : ∀ (he : EndsOk x) (t0 : ¬ x.r < 0) (t1 : ¬ x.g < 0) (t2 : ¬ x.s < 0) (t5 : ¬ x.n ≤ x.r + x.g) (t6 : ¬ x.l.t - x.f.t < x.s), lessB (timesU maxU (x.n - 1).toNat) x.i = true := fun he t0 t1 t2 t5 t6 => by
    cases hb : lessB (timesU maxU (x.n - 1).toNat) x.i
    · refine absurd (Or.inr ⟨he, ⟨by omega, by omega, by omega, by omega, by omega, ?_⟩⟩) h
      have hk := CeIn.n1 hi
      unfold lessB timesU at hb
      have hk' : (x.n - 1).toNat < 18446744073709551616 := by omega
      rw [show maxU.n = 18446744073709551615 from rfl, cutU_n (most_n hk')] at hb
      simp only [decide_eq_false_iff_not] at hb
      omega
    · rfl
  by_cases h1 : x.n = 1
  · by_cases h5 : x.f = x.l
    rotate_left
    · exact rc_f hi hz a0 f l a2 a3 h1 h5 w
    have he : EndsOk x := ⟨by omega, f, l, fun _ => h5, fun h => by omega, by omega⟩
    by_cases t0 : x.r < 0
    · exact rc_h01 hi hz a0 f l a2 a3 h1 h5 t0 w
    by_cases t1 : x.g < 0
    · exact rc_h11 hi hz a0 f l a2 a3 h1 h5 t0 t1 w
    by_cases t2 : x.s < 0
    · exact rc_h21 hi hz a0 f l a2 a3 h1 h5 t0 t1 t2 w
    by_cases t3 : x.n ≤ x.r
    · exact rc_h31 hi hz a0 f l a2 a3 h1 h5 t0 t1 t2 t3 w
    by_cases t4 : x.n ≤ x.g
    · exact rc_h41 hi hz a0 f l a2 a3 h1 h5 t0 t1 t2 t3 t4 w
    by_cases t5 : x.n ≤ x.r + x.g
    · omega
    by_cases t6 : x.l.t - x.f.t < x.s
    · exact rc_h61 hi hz a0 f l a2 a3 h1 h5 t0 t1 t2 t3 t4 t5 t6 w
    exact rc_it1 hi hz a0 f l a2 a3 h1 h5 t0 t1 t2 t3 t4 t5 t6 (fin he t0 t1 t2 t5 t6) w
  · by_cases h5 : x.f.t = x.l.t
    · omega
    have he : EndsOk x := ⟨by omega, f, l, fun h => absurd h h1, fun _ => by omega, by omega⟩
    by_cases t0 : x.r < 0
    · exact rc_h02 hi hz a0 f l a2 a3 h1 h5 t0 w
    by_cases t1 : x.g < 0
    · exact rc_h12 hi hz a0 f l a2 a3 h1 h5 t0 t1 w
    by_cases t2 : x.s < 0
    · exact rc_h22 hi hz a0 f l a2 a3 h1 h5 t0 t1 t2 w
    by_cases t3 : x.n ≤ x.r
    · exact rc_h32 hi hz a0 f l a2 a3 h1 h5 t0 t1 t2 t3 w
    by_cases t4 : x.n ≤ x.g
    · exact rc_h42 hi hz a0 f l a2 a3 h1 h5 t0 t1 t2 t3 t4 w
    by_cases t5 : x.n ≤ x.r + x.g
    · exact rc_h52 hi hz a0 f l a2 a3 h1 h5 t0 t1 t2 t3 t4 t5 w
    by_cases t6 : x.l.t - x.f.t < x.s
    · exact rc_h62 hi hz a0 f l a2 a3 h1 h5 t0 t1 t2 t3 t4 t5 t6 w
    exact rc_it2 hi hz a0 f l a2 a3 h1 h5 t0 t1 t2 t3 t4 t5 t6 (fin he t0 t1 t2 t5 t6) w
theorem rc_any {x : Ce} (hi : CeIn x) (w : World) : Calls Try.prog 14 #[.agg (ceA x)] w fun e w' => e = .returned (.int .i64 (ceE x)) ∧ Below w.heap.size w w' := by
  by_cases h : CeOk x
  · rw [ceE_yes h]; exact rc_ok hi h w
  · rw [ceE_no h]; exact rc_bad hi h w
end Go.Proofs.Ytjdjebhimljedaa
