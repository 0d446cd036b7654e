/-
  THE DOCUMENT'S ANSWERS for configurations: plimsollref10.parts, place; Check, where it refuses.
-/
import Derived.Test.YticmkepocacmhaaCc
namespace Go.Proofs.Yticmkepocacmhaa
open Go Go.RowKit

theorem q_of5 {f : FuncId} {args : Array Value} {w : World} {n : Nat} {v : Value} (h : Calls Try.prog f args (w.drewN n) fun e w' => e = .returned v ∧ w.drewN n = w') : Calls Try.prog f args (w.drewN n) fun e w'' => e = .returned v ∧ ∃ m, w'' = w.drewN m :=
  h.mono fun _ _ ⟨he, hm⟩ => ⟨he, n, hm.symm⟩
theorem sec_step {m e : Int} (he : 1 ≤ e) : secI m e = secI (m - e) e + 1 := by
  unfold secI
  have : m + e - 1 = (m - e + e - 1) + 1 * e := by omega
  rw [this, Int.add_mul_ediv_right _ _ (by omega)]
theorem sec_none {m e : Int} (h0 : -e < m) (h1 : m ≤ 0) : secI m e = 0 := by
  unfold secI
  exact Int.ediv_eq_zero_of_lt (by omega) (by omega)
theorem rt_p {a b : Int} (h : a = b) : Ending.returned (.int .i64 a) = .returned (.int .i64 b) := by rw [h]
set_option maxHeartbeats 1000000 in
theorem parts_any (n e : Int) (e0 : 1 ≤ e) (e1 : e ≤ 128) (n0 : 0 ≤ n) (n1 : n ≤ 1000000) (w : World) :
    Calls Try.prog 41 #[.int .i64 n, .int .i64 e] w fun r w' => r = .returned (.int .i64 (secI n e)) ∧ w = w' := by
  go_enter Try.func41, Try.ntmps41
  go_wp2
  go_loop [0, 5] (fun a b => ∃ m k : Int, -e < m ∧ m ≤ n ∧ 0 ≤ k ∧ k + m ≤ n + 1 ∧ (0 < m → k + m ≤ n) ∧ secI n e = k + secI m e ∧ a = .int .i64 m ∧ b = .int .i64 k) (fun a _ => (intOf a).toNat)
  case atStart => exact ⟨n, 0, by omega, by omega, by omega, by omega, fun _ => by omega, by omega, rfl, rfl⟩
  case round =>
    obtain ⟨m, k, h0, h1, h2, h3, h4, h5, rfl, rfl⟩ := hrel
    by_cases hm : 0 < m
    · have h4' := h4 hm
      have h6 := sec_step (m := m) e0
      have H5 := Lib.hid h5
      have H6 := Lib.hid h6
      have H4 := Lib.hid h4
      clear h5 h6 h4
      go_wp2
      go_round
      case rel => exact ⟨m - e, k + 1, by omega, by omega, by omega, by omega, fun _ => by omega, by rw [H5.out, H6.out]; omega, rfl, rfl⟩
      case measure => simp [intOf]; omega
    · have h6 := sec_none (e := e) h0 (by omega)
      have H5 := Lib.hid h5
      have H6 := Lib.hid h6
      clear h5 h6 h4
      go_wp2
      go_ret
      exact ⟨rt_p (by rw [H5.out, H6.out]; omega), rfl⟩
set_option maxHeartbeats 4000000 in
set_option maxRecDepth 100000 in
theorem rplace_raw (raw w0 w1 w2 n0 n1 n2 cap log : Int) (hr : SlotsOk raw) (h0 : SlotsOk n0) (h1 : SlotsOk n1) (h2 : SlotsOk n2) (w : World) :
    Calls Try.prog 38 #[.agg #[.int .i64 raw, .int .i64 w0, .int .i64 w1, .int .i64 w2, .int .i64 n0, .int .i64 n1, .int .i64 n2, .int .i64 cap, .int .i64 log]] w fun e w' => e = .returned (.int .i64 (1 + secI raw 16 + secI n0 4 + secI n1 4 + secI n2 4)) ∧ Below w.heap.size w w' := by
  have HS0 := Lib.hid (fun w1 => parts_any raw 16 (by omega) (by omega) (by have := hr.1; omega) (by have := hr.2; omega) w1)
  have HS1 := Lib.hid (fun w1 => parts_any n0 4 (by omega) (by omega) (by have := h0.1; omega) (by have := h0.2; omega) w1)
  have HS2 := Lib.hid (fun w1 => parts_any n1 4 (by omega) (by omega) (by have := h1.1; omega) (by have := h1.2; omega) w1)
  have HS3 := Lib.hid (fun w1 => parts_any n2 4 (by omega) (by omega) (by have := h2.1; omega) (by have := h2.2; omega) w1)
  obtain ⟨a0, a1⟩ := sec16_bd hr.1 hr.2
  obtain ⟨b0, b1⟩ := sec4_bd h0.1 h0.2
  obtain ⟨c0, c1⟩ := sec4_bd h1.1 h1.2
  obtain ⟨d0, d1⟩ := sec4_bd h2.1 h2.2
  generalize secI raw 16 = s0 at *
  generalize secI n0 4 = s1 at *
  generalize secI n1 4 = s2 at *
  generalize secI n2 4 = s3 at *
  clear hr h0 h1 h2
  have i1 : IntKind.i64.wrap (1 + s0) = 1 + s0 := by rw [IntKind.wrap_i64]; omega
  have i2 : IntKind.i64.wrap (1 + s0 + s1) = 1 + s0 + s1 := by rw [IntKind.wrap_i64]; omega
  have i3 : IntKind.i64.wrap (1 + s0 + s1 + s2) = 1 + s0 + s1 + s2 := by rw [IntKind.wrap_i64]; omega
  have i4 : IntKind.i64.wrap (1 + s0 + s1 + s2 + s3) = 1 + s0 + s1 + s2 + s3 := by rw [IntKind.wrap_i64]; omega
  go_enter Try.func38, Try.ntmps38
  go_wp2
  go_quiet ((first | (go_at_call 41; (with_reducible refine q_of5 (HS0.out _))) | (go_at_call 41; (with_reducible refine q_of5 (HS1.out _))) | (go_at_call 41; (with_reducible refine q_of5 (HS2.out _))) | (go_at_call 41; (with_reducible refine q_of5 (HS3.out _)))))
  go_wp2
  go_ret
  exact ⟨rfl, by repeat (first | apply bdn9 | exact (Below.refl _ _).alloc (Nat.le_refl _) _)⟩
set_option maxHeartbeats 4000000 in
set_option maxRecDepth 100000 in
theorem rck_0 {raw w0 w1 w2 n0 n1 n2 cap log : Int}  (t : raw < 1) (w : World) : Calls Try.prog 13 #[.agg #[.int .i64 raw, .int .i64 w0, .int .i64 w1, .int .i64 w2, .int .i64 n0, .int .i64 n1, .int .i64 n2, .int .i64 cap, .int .i64 log]] w fun e w' => e = .returned (.int .i64 2) ∧ Below w.heap.size w w' := by
  go_enter Try.func13, Try.ntmps13
  go_wp2
  go_ret
  exact ⟨rfl, by repeat (first | apply bdn9 | exact (Below.refl _ _).alloc (Nat.le_refl _) _)⟩
set_option maxHeartbeats 4000000 in
set_option maxRecDepth 100000 in
theorem rck_1 {raw w0 w1 w2 n0 n1 n2 cap log : Int} (r0 : 1 ≤ raw) (t : 4096 < raw) (w : World) : Calls Try.prog 13 #[.agg #[.int .i64 raw, .int .i64 w0, .int .i64 w1, .int .i64 w2, .int .i64 n0, .int .i64 n1, .int .i64 n2, .int .i64 cap, .int .i64 log]] w fun e w' => e = .returned (.int .i64 2) ∧ Below w.heap.size w w' := by
  go_enter Try.func13, Try.ntmps13
  go_wp2
  go_ret
  exact ⟨rfl, by repeat (first | apply bdn9 | exact (Below.refl _ _).alloc (Nat.le_refl _) _)⟩
set_option maxHeartbeats 4000000 in
set_option maxRecDepth 100000 in
theorem rck_2 {raw w0 w1 w2 n0 n1 n2 cap log : Int} (r0 : 1 ≤ raw) (r1 : raw ≤ 4096) (t : cap < 1) (w : World) : Calls Try.prog 13 #[.agg #[.int .i64 raw, .int .i64 w0, .int .i64 w1, .int .i64 w2, .int .i64 n0, .int .i64 n1, .int .i64 n2, .int .i64 cap, .int .i64 log]] w fun e w' => e = .returned (.int .i64 2) ∧ Below w.heap.size w w' := by
  go_enter Try.func13, Try.ntmps13
  go_wp2
  go_ret
  exact ⟨rfl, by repeat (first | apply bdn9 | exact (Below.refl _ _).alloc (Nat.le_refl _) _)⟩
set_option maxHeartbeats 4000000 in
set_option maxRecDepth 100000 in
theorem rck_3 {raw w0 w1 w2 n0 n1 n2 cap log : Int} (r0 : 1 ≤ raw) (r1 : raw ≤ 4096) (r2 : 1 ≤ cap) (t : 65536 < cap) (w : World) : Calls Try.prog 13 #[.agg #[.int .i64 raw, .int .i64 w0, .int .i64 w1, .int .i64 w2, .int .i64 n0, .int .i64 n1, .int .i64 n2, .int .i64 cap, .int .i64 log]] w fun e w' => e = .returned (.int .i64 2) ∧ Below w.heap.size w w' := by
  go_enter Try.func13, Try.ntmps13
  go_wp2
  go_ret
  exact ⟨rfl, by repeat (first | apply bdn9 | exact (Below.refl _ _).alloc (Nat.le_refl _) _)⟩
set_option maxHeartbeats 4000000 in
set_option maxRecDepth 100000 in
theorem rck_4 {raw w0 w1 w2 n0 n1 n2 cap log : Int} (r0 : 1 ≤ raw) (r1 : raw ≤ 4096) (r2 : 1 ≤ cap) (r3 : cap ≤ 65536) (t : log < 1) (w : World) : Calls Try.prog 13 #[.agg #[.int .i64 raw, .int .i64 w0, .int .i64 w1, .int .i64 w2, .int .i64 n0, .int .i64 n1, .int .i64 n2, .int .i64 cap, .int .i64 log]] w fun e w' => e = .returned (.int .i64 2) ∧ Below w.heap.size w w' := by
  go_enter Try.func13, Try.ntmps13
  go_wp2
  go_ret
  exact ⟨rfl, by repeat (first | apply bdn9 | exact (Below.refl _ _).alloc (Nat.le_refl _) _)⟩
set_option maxHeartbeats 4000000 in
set_option maxRecDepth 100000 in
theorem rck_5 {raw w0 w1 w2 n0 n1 n2 cap log : Int} (r0 : 1 ≤ raw) (r1 : raw ≤ 4096) (r2 : 1 ≤ cap) (r3 : cap ≤ 65536) (r4 : 1 ≤ log) (t : 8192 < log) (w : World) : Calls Try.prog 13 #[.agg #[.int .i64 raw, .int .i64 w0, .int .i64 w1, .int .i64 w2, .int .i64 n0, .int .i64 n1, .int .i64 n2, .int .i64 cap, .int .i64 log]] w fun e w' => e = .returned (.int .i64 2) ∧ Below w.heap.size w w' := by
  go_enter Try.func13, Try.ntmps13
  go_wp2
  go_ret
  exact ⟨rfl, by repeat (first | apply bdn9 | exact (Below.refl _ _).alloc (Nat.le_refl _) _)⟩
set_option maxHeartbeats 4000000 in
set_option maxRecDepth 100000 in
theorem rck_00 {raw w0 w1 w2 n0 n1 n2 cap log : Int} (r0 : 1 ≤ raw) (r1 : raw ≤ 4096) (r2 : 1 ≤ cap) (r3 : cap ≤ 65536) (r4 : 1 ≤ log) (r5 : log ≤ 8192)  (t : w0 < 1) (w : World) : Calls Try.prog 13 #[.agg #[.int .i64 raw, .int .i64 w0, .int .i64 w1, .int .i64 w2, .int .i64 n0, .int .i64 n1, .int .i64 n2, .int .i64 cap, .int .i64 log]] w fun e w' => e = .returned (.int .i64 2) ∧ Below w.heap.size w w' := by
  have z0 : IntKind.i64.wrap 0 = 0 := by decide
  have z1 : IntKind.i64.wrap 1 = 1 := by decide
  go_enter Try.func13, Try.ntmps13
  go_wp2
  refine wp_loop_rounds 4 ?_
  (rw [rounds_succ]; go_wp2_with fail)
  go_ret
  exact ⟨rfl, by repeat (first | apply bdn9 | exact (Below.refl _ _).alloc (Nat.le_refl _) _)⟩
set_option maxHeartbeats 4000000 in
set_option maxRecDepth 100000 in
theorem rck_01 {raw w0 w1 w2 n0 n1 n2 cap log : Int} (r0 : 1 ≤ raw) (r1 : raw ≤ 4096) (r2 : 1 ≤ cap) (r3 : cap ≤ 65536) (r4 : 1 ≤ log) (r5 : log ≤ 8192) (v00 : 1 ≤ w0) (t : 1099511627776 < w0) (w : World) : Calls Try.prog 13 #[.agg #[.int .i64 raw, .int .i64 w0, .int .i64 w1, .int .i64 w2, .int .i64 n0, .int .i64 n1, .int .i64 n2, .int .i64 cap, .int .i64 log]] w fun e w' => e = .returned (.int .i64 2) ∧ Below w.heap.size w w' := by
  have z0 : IntKind.i64.wrap 0 = 0 := by decide
  have z1 : IntKind.i64.wrap 1 = 1 := by decide
  go_enter Try.func13, Try.ntmps13
  go_wp2
  refine wp_loop_rounds 4 ?_
  (rw [rounds_succ]; go_wp2_with fail)
  go_ret
  exact ⟨rfl, by repeat (first | apply bdn9 | exact (Below.refl _ _).alloc (Nat.le_refl _) _)⟩
set_option maxHeartbeats 4000000 in
set_option maxRecDepth 100000 in
theorem rck_02 {raw w0 w1 w2 n0 n1 n2 cap log : Int} (r0 : 1 ≤ raw) (r1 : raw ≤ 4096) (r2 : 1 ≤ cap) (r3 : cap ≤ 65536) (r4 : 1 ≤ log) (r5 : log ≤ 8192) (v00 : 1 ≤ w0) (v01 : w0 ≤ 1099511627776) (t : n0 < 1) (w : World) : Calls Try.prog 13 #[.agg #[.int .i64 raw, .int .i64 w0, .int .i64 w1, .int .i64 w2, .int .i64 n0, .int .i64 n1, .int .i64 n2, .int .i64 cap, .int .i64 log]] w fun e w' => e = .returned (.int .i64 2) ∧ Below w.heap.size w w' := by
  have z0 : IntKind.i64.wrap 0 = 0 := by decide
  have z1 : IntKind.i64.wrap 1 = 1 := by decide
  go_enter Try.func13, Try.ntmps13
  go_wp2
  refine wp_loop_rounds 4 ?_
  (rw [rounds_succ]; go_wp2_with fail)
  go_ret
  exact ⟨rfl, by repeat (first | apply bdn9 | exact (Below.refl _ _).alloc (Nat.le_refl _) _)⟩
set_option maxHeartbeats 4000000 in
set_option maxRecDepth 100000 in
theorem rck_03 {raw w0 w1 w2 n0 n1 n2 cap log : Int} (r0 : 1 ≤ raw) (r1 : raw ≤ 4096) (r2 : 1 ≤ cap) (r3 : cap ≤ 65536) (r4 : 1 ≤ log) (r5 : log ≤ 8192) (v00 : 1 ≤ w0) (v01 : w0 ≤ 1099511627776) (v02 : 1 ≤ n0) (t : 4096 < n0) (w : World) : Calls Try.prog 13 #[.agg #[.int .i64 raw, .int .i64 w0, .int .i64 w1, .int .i64 w2, .int .i64 n0, .int .i64 n1, .int .i64 n2, .int .i64 cap, .int .i64 log]] w fun e w' => e = .returned (.int .i64 2) ∧ Below w.heap.size w w' := by
  have z0 : IntKind.i64.wrap 0 = 0 := by decide
  have z1 : IntKind.i64.wrap 1 = 1 := by decide
  go_enter Try.func13, Try.ntmps13
  go_wp2
  refine wp_loop_rounds 4 ?_
  (rw [rounds_succ]; go_wp2_with fail)
  go_ret
  exact ⟨rfl, by repeat (first | apply bdn9 | exact (Below.refl _ _).alloc (Nat.le_refl _) _)⟩
set_option maxHeartbeats 4000000 in
set_option maxRecDepth 100000 in
theorem rck_10 {raw w0 w1 w2 n0 n1 n2 cap log : Int} (r0 : 1 ≤ raw) (r1 : raw ≤ 4096) (r2 : 1 ≤ cap) (r3 : cap ≤ 65536) (r4 : 1 ≤ log) (r5 : log ≤ 8192) (v00 : 1 ≤ w0) (v01 : w0 ≤ 1099511627776) (v02 : 1 ≤ n0) (v03 : n0 ≤ 4096)  (t : w1 < 1) (w : World) : Calls Try.prog 13 #[.agg #[.int .i64 raw, .int .i64 w0, .int .i64 w1, .int .i64 w2, .int .i64 n0, .int .i64 n1, .int .i64 n2, .int .i64 cap, .int .i64 log]] w fun e w' => e = .returned (.int .i64 2) ∧ Below w.heap.size w w' := by
  have z0 : IntKind.i64.wrap 0 = 0 := by decide
  have z1 : IntKind.i64.wrap 1 = 1 := by decide
  go_enter Try.func13, Try.ntmps13
  go_wp2
  refine wp_loop_rounds 4 ?_
  (rw [rounds_succ]; go_wp2_with fail)
  go_quiet (fail)
  go_wp2_with fail
  (rw [rounds_succ]; go_wp2_with fail)
  go_ret
  exact ⟨rfl, by repeat (first | apply bdn9 | exact (Below.refl _ _).alloc (Nat.le_refl _) _)⟩
set_option maxHeartbeats 4000000 in
set_option maxRecDepth 100000 in
theorem rck_11 {raw w0 w1 w2 n0 n1 n2 cap log : Int} (r0 : 1 ≤ raw) (r1 : raw ≤ 4096) (r2 : 1 ≤ cap) (r3 : cap ≤ 65536) (r4 : 1 ≤ log) (r5 : log ≤ 8192) (v00 : 1 ≤ w0) (v01 : w0 ≤ 1099511627776) (v02 : 1 ≤ n0) (v03 : n0 ≤ 4096) (v10 : 1 ≤ w1) (t : 1099511627776 < w1) (w : World) : Calls Try.prog 13 #[.agg #[.int .i64 raw, .int .i64 w0, .int .i64 w1, .int .i64 w2, .int .i64 n0, .int .i64 n1, .int .i64 n2, .int .i64 cap, .int .i64 log]] w fun e w' => e = .returned (.int .i64 2) ∧ Below w.heap.size w w' := by
  have z0 : IntKind.i64.wrap 0 = 0 := by decide
  have z1 : IntKind.i64.wrap 1 = 1 := by decide
  go_enter Try.func13, Try.ntmps13
  go_wp2
  refine wp_loop_rounds 4 ?_
  (rw [rounds_succ]; go_wp2_with fail)
  go_quiet (fail)
  go_wp2_with fail
  (rw [rounds_succ]; go_wp2_with fail)
  go_ret
  exact ⟨rfl, by repeat (first | apply bdn9 | exact (Below.refl _ _).alloc (Nat.le_refl _) _)⟩
set_option maxHeartbeats 4000000 in
set_option maxRecDepth 100000 in
theorem rck_12 {raw w0 w1 w2 n0 n1 n2 cap log : Int} (r0 : 1 ≤ raw) (r1 : raw ≤ 4096) (r2 : 1 ≤ cap) (r3 : cap ≤ 65536) (r4 : 1 ≤ log) (r5 : log ≤ 8192) (v00 : 1 ≤ w0) (v01 : w0 ≤ 1099511627776) (v02 : 1 ≤ n0) (v03 : n0 ≤ 4096) (v10 : 1 ≤ w1) (v11 : w1 ≤ 1099511627776) (t : n1 < 1) (w : World) : Calls Try.prog 13 #[.agg #[.int .i64 raw, .int .i64 w0, .int .i64 w1, .int .i64 w2, .int .i64 n0, .int .i64 n1, .int .i64 n2, .int .i64 cap, .int .i64 log]] w fun e w' => e = .returned (.int .i64 2) ∧ Below w.heap.size w w' := by
  have z0 : IntKind.i64.wrap 0 = 0 := by decide
  have z1 : IntKind.i64.wrap 1 = 1 := by decide
  go_enter Try.func13, Try.ntmps13
  go_wp2
  refine wp_loop_rounds 4 ?_
  (rw [rounds_succ]; go_wp2_with fail)
  go_quiet (fail)
  go_wp2_with fail
  (rw [rounds_succ]; go_wp2_with fail)
  go_ret
  exact ⟨rfl, by repeat (first | apply bdn9 | exact (Below.refl _ _).alloc (Nat.le_refl _) _)⟩
set_option maxHeartbeats 4000000 in
set_option maxRecDepth 100000 in
theorem rck_13 {raw w0 w1 w2 n0 n1 n2 cap log : Int} (r0 : 1 ≤ raw) (r1 : raw ≤ 4096) (r2 : 1 ≤ cap) (r3 : cap ≤ 65536) (r4 : 1 ≤ log) (r5 : log ≤ 8192) (v00 : 1 ≤ w0) (v01 : w0 ≤ 1099511627776) (v02 : 1 ≤ n0) (v03 : n0 ≤ 4096) (v10 : 1 ≤ w1) (v11 : w1 ≤ 1099511627776) (v12 : 1 ≤ n1) (t : 4096 < n1) (w : World) : Calls Try.prog 13 #[.agg #[.int .i64 raw, .int .i64 w0, .int .i64 w1, .int .i64 w2, .int .i64 n0, .int .i64 n1, .int .i64 n2, .int .i64 cap, .int .i64 log]] w fun e w' => e = .returned (.int .i64 2) ∧ Below w.heap.size w w' := by
  have z0 : IntKind.i64.wrap 0 = 0 := by decide
  have z1 : IntKind.i64.wrap 1 = 1 := by decide
  go_enter Try.func13, Try.ntmps13
  go_wp2
  refine wp_loop_rounds 4 ?_
  (rw [rounds_succ]; go_wp2_with fail)
  go_quiet (fail)
  go_wp2_with fail
  (rw [rounds_succ]; go_wp2_with fail)
  go_ret
  exact ⟨rfl, by repeat (first | apply bdn9 | exact (Below.refl _ _).alloc (Nat.le_refl _) _)⟩
set_option maxHeartbeats 4000000 in
set_option maxRecDepth 100000 in
theorem rck_1a {raw w0 w1 w2 n0 n1 n2 cap log : Int} (r0 : 1 ≤ raw) (r1 : raw ≤ 4096) (r2 : 1 ≤ cap) (r3 : cap ≤ 65536) (r4 : 1 ≤ log) (r5 : log ≤ 8192) (v00 : 1 ≤ w0) (v01 : w0 ≤ 1099511627776) (v02 : 1 ≤ n0) (v03 : n0 ≤ 4096) (v10 : 1 ≤ w1) (v11 : w1 ≤ 1099511627776) (v12 : 1 ≤ n1) (v13 : n1 ≤ 4096) (t : ¬ w1 % w0 = 0) (w : World) : Calls Try.prog 13 #[.agg #[.int .i64 raw, .int .i64 w0, .int .i64 w1, .int .i64 w2, .int .i64 n0, .int .i64 n1, .int .i64 n2, .int .i64 cap, .int .i64 log]] w fun e w' => e = .returned (.int .i64 2) ∧ Below w.heap.size w w' := by
  have m1 : 0 ≤ w1 % w0 := Int.emod_nonneg _ (by omega)
  have q1 : 0 ≤ w1 / w0 := Int.ediv_nonneg (by omega) (by omega)
  have Q1 : w1 / w0 ≤ w1 := Int.ediv_le_self _ (by omega)
  have N1 : ¬ w0 = 0 := by omega
  have P1 : 0 ≤ w1 := by omega
  have t1 : Int.tmod w1 w0 = w1 % w0 := Int.tmod_eq_emod_of_nonneg P1
  have u1 : Int.tdiv w1 w0 = w1 / w0 := Int.tdiv_eq_ediv_of_nonneg P1
  have U1 : IntKind.i64.wrap (w1 / w0) = w1 / w0 := by rw [IntKind.wrap_i64]; omega
  have gz : (w1 % w0 != 0) = true := by rw [bne_iff_ne]; exact t
  have z0 : IntKind.i64.wrap 0 = 0 := by decide
  have z1 : IntKind.i64.wrap 1 = 1 := by decide
  go_enter Try.func13, Try.ntmps13
  go_wp2
  refine wp_loop_rounds 4 ?_
  (rw [rounds_succ]; go_wp2_with fail)
  go_quiet (fail)
  go_wp2_with fail
  (rw [rounds_succ]; go_wp2_with fail)
  go_quiet (fail)
  go_wp2_with fail
  go_ret
  exact ⟨rfl, by repeat (first | apply bdn9 | exact (Below.refl _ _).alloc (Nat.le_refl _) _)⟩
set_option maxHeartbeats 4000000 in
set_option maxRecDepth 100000 in
theorem rck_1b {raw w0 w1 w2 n0 n1 n2 cap log : Int} (r0 : 1 ≤ raw) (r1 : raw ≤ 4096) (r2 : 1 ≤ cap) (r3 : cap ≤ 65536) (r4 : 1 ≤ log) (r5 : log ≤ 8192) (v00 : 1 ≤ w0) (v01 : w0 ≤ 1099511627776) (v02 : 1 ≤ n0) (v03 : n0 ≤ 4096) (v10 : 1 ≤ w1) (v11 : w1 ≤ 1099511627776) (v12 : 1 ≤ n1) (v13 : n1 ≤ 4096) (x1 : w1 % w0 = 0) (t : n0 < w1 / w0) (w : World) : Calls Try.prog 13 #[.agg #[.int .i64 raw, .int .i64 w0, .int .i64 w1, .int .i64 w2, .int .i64 n0, .int .i64 n1, .int .i64 n2, .int .i64 cap, .int .i64 log]] w fun e w' => e = .returned (.int .i64 2) ∧ Below w.heap.size w w' := by
  have m1 : 0 ≤ w1 % w0 := Int.emod_nonneg _ (by omega)
  have q1 : 0 ≤ w1 / w0 := Int.ediv_nonneg (by omega) (by omega)
  have Q1 : w1 / w0 ≤ w1 := Int.ediv_le_self _ (by omega)
  have N1 : ¬ w0 = 0 := by omega
  have P1 : 0 ≤ w1 := by omega
  have t1 : Int.tmod w1 w0 = w1 % w0 := Int.tmod_eq_emod_of_nonneg P1
  have u1 : Int.tdiv w1 w0 = w1 / w0 := Int.tdiv_eq_ediv_of_nonneg P1
  have U1 : IntKind.i64.wrap (w1 / w0) = w1 / w0 := by rw [IntKind.wrap_i64]; omega
  have gz : decide (n0 < w1 / w0) = true := by simp; omega
  have z0 : IntKind.i64.wrap 0 = 0 := by decide
  have z1 : IntKind.i64.wrap 1 = 1 := by decide
  go_enter Try.func13, Try.ntmps13
  go_wp2
  refine wp_loop_rounds 4 ?_
  (rw [rounds_succ]; go_wp2_with fail)
  go_quiet (fail)
  go_wp2_with fail
  (rw [rounds_succ]; go_wp2_with fail)
  go_quiet (fail)
  go_wp2_with fail
  go_ret
  exact ⟨rfl, by repeat (first | apply bdn9 | exact (Below.refl _ _).alloc (Nat.le_refl _) _)⟩
set_option maxHeartbeats 4000000 in
set_option maxRecDepth 100000 in
theorem rck_20 {raw w0 w1 w2 n0 n1 n2 cap log : Int} (r0 : 1 ≤ raw) (r1 : raw ≤ 4096) (r2 : 1 ≤ cap) (r3 : cap ≤ 65536) (r4 : 1 ≤ log) (r5 : log ≤ 8192) (v00 : 1 ≤ w0) (v01 : w0 ≤ 1099511627776) (v02 : 1 ≤ n0) (v03 : n0 ≤ 4096) (v10 : 1 ≤ w1) (v11 : w1 ≤ 1099511627776) (v12 : 1 ≤ n1) (v13 : n1 ≤ 4096) (x1 : w1 % w0 = 0) (y1 : w1 / w0 ≤ n0)  (t : w2 < 1) (w : World) : Calls Try.prog 13 #[.agg #[.int .i64 raw, .int .i64 w0, .int .i64 w1, .int .i64 w2, .int .i64 n0, .int .i64 n1, .int .i64 n2, .int .i64 cap, .int .i64 log]] w fun e w' => e = .returned (.int .i64 2) ∧ Below w.heap.size w w' := by
  have m1 : 0 ≤ w1 % w0 := Int.emod_nonneg _ (by omega)
  have q1 : 0 ≤ w1 / w0 := Int.ediv_nonneg (by omega) (by omega)
  have Q1 : w1 / w0 ≤ w1 := Int.ediv_le_self _ (by omega)
  have N1 : ¬ w0 = 0 := by omega
  have P1 : 0 ≤ w1 := by omega
  have t1 : Int.tmod w1 w0 = w1 % w0 := Int.tmod_eq_emod_of_nonneg P1
  have u1 : Int.tdiv w1 w0 = w1 / w0 := Int.tdiv_eq_ediv_of_nonneg P1
  have U1 : IntKind.i64.wrap (w1 / w0) = w1 / w0 := by rw [IntKind.wrap_i64]; omega
  have g1 : decide (n0 < w1 / w0) = false := by simp; omega
  have z0 : IntKind.i64.wrap 0 = 0 := by decide
  have z1 : IntKind.i64.wrap 1 = 1 := by decide
  go_enter Try.func13, Try.ntmps13
  go_wp2
  refine wp_loop_rounds 4 ?_
  (rw [rounds_succ]; go_wp2_with fail)
  go_quiet (fail)
  go_wp2_with fail
  (rw [rounds_succ]; go_wp2_with fail)
  go_quiet (fail)
  go_wp2_with fail
  (rw [rounds_succ]; go_wp2_with fail)
  go_ret
  exact ⟨rfl, by repeat (first | apply bdn9 | exact (Below.refl _ _).alloc (Nat.le_refl _) _)⟩
set_option maxHeartbeats 4000000 in
set_option maxRecDepth 100000 in
theorem rck_21 {raw w0 w1 w2 n0 n1 n2 cap log : Int} (r0 : 1 ≤ raw) (r1 : raw ≤ 4096) (r2 : 1 ≤ cap) (r3 : cap ≤ 65536) (r4 : 1 ≤ log) (r5 : log ≤ 8192) (v00 : 1 ≤ w0) (v01 : w0 ≤ 1099511627776) (v02 : 1 ≤ n0) (v03 : n0 ≤ 4096) (v10 : 1 ≤ w1) (v11 : w1 ≤ 1099511627776) (v12 : 1 ≤ n1) (v13 : n1 ≤ 4096) (x1 : w1 % w0 = 0) (y1 : w1 / w0 ≤ n0) (v20 : 1 ≤ w2) (t : 1099511627776 < w2) (w : World) : Calls Try.prog 13 #[.agg #[.int .i64 raw, .int .i64 w0, .int .i64 w1, .int .i64 w2, .int .i64 n0, .int .i64 n1, .int .i64 n2, .int .i64 cap, .int .i64 log]] w fun e w' => e = .returned (.int .i64 2) ∧ Below w.heap.size w w' := by
  have m1 : 0 ≤ w1 % w0 := Int.emod_nonneg _ (by omega)
  have q1 : 0 ≤ w1 / w0 := Int.ediv_nonneg (by omega) (by omega)
  have Q1 : w1 / w0 ≤ w1 := Int.ediv_le_self _ (by omega)
  have N1 : ¬ w0 = 0 := by omega
  have P1 : 0 ≤ w1 := by omega
  have t1 : Int.tmod w1 w0 = w1 % w0 := Int.tmod_eq_emod_of_nonneg P1
  have u1 : Int.tdiv w1 w0 = w1 / w0 := Int.tdiv_eq_ediv_of_nonneg P1
  have U1 : IntKind.i64.wrap (w1 / w0) = w1 / w0 := by rw [IntKind.wrap_i64]; omega
  have g1 : decide (n0 < w1 / w0) = false := by simp; omega
  have z0 : IntKind.i64.wrap 0 = 0 := by decide
  have z1 : IntKind.i64.wrap 1 = 1 := by decide
  go_enter Try.func13, Try.ntmps13
  go_wp2
  refine wp_loop_rounds 4 ?_
  (rw [rounds_succ]; go_wp2_with fail)
  go_quiet (fail)
  go_wp2_with fail
  (rw [rounds_succ]; go_wp2_with fail)
  go_quiet (fail)
  go_wp2_with fail
  (rw [rounds_succ]; go_wp2_with fail)
  go_ret
  exact ⟨rfl, by repeat (first | apply bdn9 | exact (Below.refl _ _).alloc (Nat.le_refl _) _)⟩
set_option maxHeartbeats 4000000 in
set_option maxRecDepth 100000 in
theorem rck_22 {raw w0 w1 w2 n0 n1 n2 cap log : Int} (r0 : 1 ≤ raw) (r1 : raw ≤ 4096) (r2 : 1 ≤ cap) (r3 : cap ≤ 65536) (r4 : 1 ≤ log) (r5 : log ≤ 8192) (v00 : 1 ≤ w0) (v01 : w0 ≤ 1099511627776) (v02 : 1 ≤ n0) (v03 : n0 ≤ 4096) (v10 : 1 ≤ w1) (v11 : w1 ≤ 1099511627776) (v12 : 1 ≤ n1) (v13 : n1 ≤ 4096) (x1 : w1 % w0 = 0) (y1 : w1 / w0 ≤ n0) (v20 : 1 ≤ w2) (v21 : w2 ≤ 1099511627776) (t : n2 < 1) (w : World) : Calls Try.prog 13 #[.agg #[.int .i64 raw, .int .i64 w0, .int .i64 w1, .int .i64 w2, .int .i64 n0, .int .i64 n1, .int .i64 n2, .int .i64 cap, .int .i64 log]] w fun e w' => e = .returned (.int .i64 2) ∧ Below w.heap.size w w' := by
  have m1 : 0 ≤ w1 % w0 := Int.emod_nonneg _ (by omega)
  have q1 : 0 ≤ w1 / w0 := Int.ediv_nonneg (by omega) (by omega)
  have Q1 : w1 / w0 ≤ w1 := Int.ediv_le_self _ (by omega)
  have N1 : ¬ w0 = 0 := by omega
  have P1 : 0 ≤ w1 := by omega
  have t1 : Int.tmod w1 w0 = w1 % w0 := Int.tmod_eq_emod_of_nonneg P1
  have u1 : Int.tdiv w1 w0 = w1 / w0 := Int.tdiv_eq_ediv_of_nonneg P1
  have U1 : IntKind.i64.wrap (w1 / w0) = w1 / w0 := by rw [IntKind.wrap_i64]; omega
  have g1 : decide (n0 < w1 / w0) = false := by simp; omega
  have z0 : IntKind.i64.wrap 0 = 0 := by decide
  have z1 : IntKind.i64.wrap 1 = 1 := by decide
  go_enter Try.func13, Try.ntmps13
  go_wp2
  refine wp_loop_rounds 4 ?_
  (rw [rounds_succ]; go_wp2_with fail)
  go_quiet (fail)
  go_wp2_with fail
  (rw [rounds_succ]; go_wp2_with fail)
  go_quiet (fail)
  go_wp2_with fail
  (rw [rounds_succ]; go_wp2_with fail)
  go_ret
  exact ⟨rfl, by repeat (first | apply bdn9 | exact (Below.refl _ _).alloc (Nat.le_refl _) _)⟩
set_option maxHeartbeats 4000000 in
set_option maxRecDepth 100000 in
theorem rck_23 {raw w0 w1 w2 n0 n1 n2 cap log : Int} (r0 : 1 ≤ raw) (r1 : raw ≤ 4096) (r2 : 1 ≤ cap) (r3 : cap ≤ 65536) (r4 : 1 ≤ log) (r5 : log ≤ 8192) (v00 : 1 ≤ w0) (v01 : w0 ≤ 1099511627776) (v02 : 1 ≤ n0) (v03 : n0 ≤ 4096) (v10 : 1 ≤ w1) (v11 : w1 ≤ 1099511627776) (v12 : 1 ≤ n1) (v13 : n1 ≤ 4096) (x1 : w1 % w0 = 0) (y1 : w1 / w0 ≤ n0) (v20 : 1 ≤ w2) (v21 : w2 ≤ 1099511627776) (v22 : 1 ≤ n2) (t : 4096 < n2) (w : World) : Calls Try.prog 13 #[.agg #[.int .i64 raw, .int .i64 w0, .int .i64 w1, .int .i64 w2, .int .i64 n0, .int .i64 n1, .int .i64 n2, .int .i64 cap, .int .i64 log]] w fun e w' => e = .returned (.int .i64 2) ∧ Below w.heap.size w w' := by
  have m1 : 0 ≤ w1 % w0 := Int.emod_nonneg _ (by omega)
  have q1 : 0 ≤ w1 / w0 := Int.ediv_nonneg (by omega) (by omega)
  have Q1 : w1 / w0 ≤ w1 := Int.ediv_le_self _ (by omega)
  have N1 : ¬ w0 = 0 := by omega
  have P1 : 0 ≤ w1 := by omega
  have t1 : Int.tmod w1 w0 = w1 % w0 := Int.tmod_eq_emod_of_nonneg P1
  have u1 : Int.tdiv w1 w0 = w1 / w0 := Int.tdiv_eq_ediv_of_nonneg P1
  have U1 : IntKind.i64.wrap (w1 / w0) = w1 / w0 := by rw [IntKind.wrap_i64]; omega
  have g1 : decide (n0 < w1 / w0) = false := by simp; omega
  have z0 : IntKind.i64.wrap 0 = 0 := by decide
  have z1 : IntKind.i64.wrap 1 = 1 := by decide
  go_enter Try.func13, Try.ntmps13
  go_wp2
  refine wp_loop_rounds 4 ?_
  (rw [rounds_succ]; go_wp2_with fail)
  go_quiet (fail)
  go_wp2_with fail
  (rw [rounds_succ]; go_wp2_with fail)
  go_quiet (fail)
  go_wp2_with fail
  (rw [rounds_succ]; go_wp2_with fail)
  go_ret
  exact ⟨rfl, by repeat (first | apply bdn9 | exact (Below.refl _ _).alloc (Nat.le_refl _) _)⟩
set_option maxHeartbeats 4000000 in
set_option maxRecDepth 100000 in
theorem rck_2a {raw w0 w1 w2 n0 n1 n2 cap log : Int} (r0 : 1 ≤ raw) (r1 : raw ≤ 4096) (r2 : 1 ≤ cap) (r3 : cap ≤ 65536) (r4 : 1 ≤ log) (r5 : log ≤ 8192) (v00 : 1 ≤ w0) (v01 : w0 ≤ 1099511627776) (v02 : 1 ≤ n0) (v03 : n0 ≤ 4096) (v10 : 1 ≤ w1) (v11 : w1 ≤ 1099511627776) (v12 : 1 ≤ n1) (v13 : n1 ≤ 4096) (x1 : w1 % w0 = 0) (y1 : w1 / w0 ≤ n0) (v20 : 1 ≤ w2) (v21 : w2 ≤ 1099511627776) (v22 : 1 ≤ n2) (v23 : n2 ≤ 4096) (t : ¬ w2 % w1 = 0) (w : World) : Calls Try.prog 13 #[.agg #[.int .i64 raw, .int .i64 w0, .int .i64 w1, .int .i64 w2, .int .i64 n0, .int .i64 n1, .int .i64 n2, .int .i64 cap, .int .i64 log]] w fun e w' => e = .returned (.int .i64 2) ∧ Below w.heap.size w w' := by
  have m1 : 0 ≤ w1 % w0 := Int.emod_nonneg _ (by omega)
  have q1 : 0 ≤ w1 / w0 := Int.ediv_nonneg (by omega) (by omega)
  have Q1 : w1 / w0 ≤ w1 := Int.ediv_le_self _ (by omega)
  have N1 : ¬ w0 = 0 := by omega
  have P1 : 0 ≤ w1 := by omega
  have t1 : Int.tmod w1 w0 = w1 % w0 := Int.tmod_eq_emod_of_nonneg P1
  have u1 : Int.tdiv w1 w0 = w1 / w0 := Int.tdiv_eq_ediv_of_nonneg P1
  have U1 : IntKind.i64.wrap (w1 / w0) = w1 / w0 := by rw [IntKind.wrap_i64]; omega
  have g1 : decide (n0 < w1 / w0) = false := by simp; omega
  have m2 : 0 ≤ w2 % w1 := Int.emod_nonneg _ (by omega)
  have q2 : 0 ≤ w2 / w1 := Int.ediv_nonneg (by omega) (by omega)
  have Q2 : w2 / w1 ≤ w2 := Int.ediv_le_self _ (by omega)
  have N2 : ¬ w1 = 0 := by omega
  have P2 : 0 ≤ w2 := by omega
  have t2 : Int.tmod w2 w1 = w2 % w1 := Int.tmod_eq_emod_of_nonneg P2
  have u2 : Int.tdiv w2 w1 = w2 / w1 := Int.tdiv_eq_ediv_of_nonneg P2
  have U2 : IntKind.i64.wrap (w2 / w1) = w2 / w1 := by rw [IntKind.wrap_i64]; omega
  have gz : (w2 % w1 != 0) = true := by rw [bne_iff_ne]; exact t
  have z0 : IntKind.i64.wrap 0 = 0 := by decide
  have z1 : IntKind.i64.wrap 1 = 1 := by decide
  go_enter Try.func13, Try.ntmps13
  go_wp2
  refine wp_loop_rounds 4 ?_
  (rw [rounds_succ]; go_wp2_with fail)
  go_quiet (fail)
  go_wp2_with fail
  (rw [rounds_succ]; go_wp2_with fail)
  go_quiet (fail)
  go_wp2_with fail
  (rw [rounds_succ]; go_wp2_with fail)
  go_quiet (fail)
  go_wp2_with fail
  go_ret
  exact ⟨rfl, by repeat (first | apply bdn9 | exact (Below.refl _ _).alloc (Nat.le_refl _) _)⟩
set_option maxHeartbeats 4000000 in
set_option maxRecDepth 100000 in
theorem rck_2b {raw w0 w1 w2 n0 n1 n2 cap log : Int} (r0 : 1 ≤ raw) (r1 : raw ≤ 4096) (r2 : 1 ≤ cap) (r3 : cap ≤ 65536) (r4 : 1 ≤ log) (r5 : log ≤ 8192) (v00 : 1 ≤ w0) (v01 : w0 ≤ 1099511627776) (v02 : 1 ≤ n0) (v03 : n0 ≤ 4096) (v10 : 1 ≤ w1) (v11 : w1 ≤ 1099511627776) (v12 : 1 ≤ n1) (v13 : n1 ≤ 4096) (x1 : w1 % w0 = 0) (y1 : w1 / w0 ≤ n0) (v20 : 1 ≤ w2) (v21 : w2 ≤ 1099511627776) (v22 : 1 ≤ n2) (v23 : n2 ≤ 4096) (x2 : w2 % w1 = 0) (t : n1 < w2 / w1) (w : World) : Calls Try.prog 13 #[.agg #[.int .i64 raw, .int .i64 w0, .int .i64 w1, .int .i64 w2, .int .i64 n0, .int .i64 n1, .int .i64 n2, .int .i64 cap, .int .i64 log]] w fun e w' => e = .returned (.int .i64 2) ∧ Below w.heap.size w w' := by
  have m1 : 0 ≤ w1 % w0 := Int.emod_nonneg _ (by omega)
  have q1 : 0 ≤ w1 / w0 := Int.ediv_nonneg (by omega) (by omega)
  have Q1 : w1 / w0 ≤ w1 := Int.ediv_le_self _ (by omega)
  have N1 : ¬ w0 = 0 := by omega
  have P1 : 0 ≤ w1 := by omega
  have t1 : Int.tmod w1 w0 = w1 % w0 := Int.tmod_eq_emod_of_nonneg P1
  have u1 : Int.tdiv w1 w0 = w1 / w0 := Int.tdiv_eq_ediv_of_nonneg P1
  have U1 : IntKind.i64.wrap (w1 / w0) = w1 / w0 := by rw [IntKind.wrap_i64]; omega
  have g1 : decide (n0 < w1 / w0) = false := by simp; omega
  have m2 : 0 ≤ w2 % w1 := Int.emod_nonneg _ (by omega)
  have q2 : 0 ≤ w2 / w1 := Int.ediv_nonneg (by omega) (by omega)
  have Q2 : w2 / w1 ≤ w2 := Int.ediv_le_self _ (by omega)
  have N2 : ¬ w1 = 0 := by omega
  have P2 : 0 ≤ w2 := by omega
  have t2 : Int.tmod w2 w1 = w2 % w1 := Int.tmod_eq_emod_of_nonneg P2
  have u2 : Int.tdiv w2 w1 = w2 / w1 := Int.tdiv_eq_ediv_of_nonneg P2
  have U2 : IntKind.i64.wrap (w2 / w1) = w2 / w1 := by rw [IntKind.wrap_i64]; omega
  have gz : decide (n1 < w2 / w1) = true := by simp; omega
  have z0 : IntKind.i64.wrap 0 = 0 := by decide
  have z1 : IntKind.i64.wrap 1 = 1 := by decide
  go_enter Try.func13, Try.ntmps13
  go_wp2
  refine wp_loop_rounds 4 ?_
  (rw [rounds_succ]; go_wp2_with fail)
  go_quiet (fail)
  go_wp2_with fail
  (rw [rounds_succ]; go_wp2_with fail)
  go_quiet (fail)
  go_wp2_with fail
  (rw [rounds_succ]; go_wp2_with fail)
  go_quiet (fail)
  go_wp2_with fail
  go_ret
  exact ⟨rfl, by repeat (first | apply bdn9 | exact (Below.refl _ _).alloc (Nat.le_refl _) _)⟩
end Go.Proofs.Yticmkepocacmhaa
