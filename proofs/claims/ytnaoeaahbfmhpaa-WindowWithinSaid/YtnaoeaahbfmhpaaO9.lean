/-
  WALKS: plimsolllaw09.WindowOwn: it answers true.
-/
import Derived.Test.YtnaoeaahbfmhpaaL9
namespace Go.Proofs.Ytnaoeaahbfmhpaa
open Go Go.RowKit

theorem beg_at {t w : Int} (ht : TimeOk t) (hw : WidthOk w) : BegOk (t / w) w := by
  obtain ⟨h1, h2⟩ := ht
  have hw' := hw
  obtain ⟨h3, h4⟩ := hw
  exact ⟨hw', Int.ediv_nonneg h1 (by omega), Int.ediv_le_ediv (by omega) (by omega)⟩
theorem beg_le {t w : Int} (hw : WidthOk w) : t / w * w ≤ t ∧ t - t / w * w < w := by
  obtain ⟨h3, h4⟩ := hw
  have h := Int.mul_ediv_add_emod t w
  have := Int.emod_nonneg t (show w ≠ 0 by omega)
  have := Int.emod_lt_of_pos t (show 0 < w by omega)
  rw [Int.mul_comm] at h
  omega
theorem old_le {now w n : Int} (h : OldOk now w n) : 0 ≤ oldI now w n ∧ oldI now w n ≤ now / w ∧ now / w - n + 1 ≤ oldI now w n ∧ now / w ≤ 35184372088831 := by
  obtain ⟨q0, q1⟩ := quo_bd h.1
  obtain ⟨n0, n1⟩ := h.2
  unfold oldI
  rw [if_pos h]
  split <;> omega
theorem slot_own {o c n i k : Int} (n0 : 1 ≤ n) (h1 : c - n + 1 ≤ o) (i0 : o ≤ i) (i1 : i ≤ c) (k0 : o ≤ k) (k1 : k ≤ c) (h : i % n = k % n) : i = k := by
  have a := Int.mul_ediv_add_emod i n
  have b := Int.mul_ediv_add_emod k n
  have hd : n * (i / n - k / n) = i - k := by rw [Int.mul_sub]; omega
  generalize i / n - k / n = d at hd
  by_cases d0 : d = 0
  · subst d0; omega
  · by_cases d1 : 1 ≤ d
    · have : n * 1 ≤ n * d := Int.mul_le_mul_of_nonneg_left d1 (by omega)
      omega
    · have : n * d ≤ n * (-1) := Int.mul_le_mul_of_nonneg_left (by omega) (by omega)
      omega
theorem gone_on {t now later w n : Int} (hl : 0 ≤ later) (h : TimeOk (now + later)) (hn : TimeOk now) (hw : WidthOk w) (hs : SlotsOk n) (hg : goneB t now w n = true) : goneB t (now + later) w n = true := by
  have o1 : OldOk now w n := ⟨⟨hn, hw⟩, hs⟩
  have o2 : OldOk (now + later) w n := ⟨⟨h, hw⟩, hs⟩
  have hm : now / w ≤ (now + later) / w := Int.ediv_le_ediv (by have := hw.1; omega) (by omega)
  unfold goneB at hg ⊢
  simp only [decide_eq_true_eq] at hg ⊢
  refine ⟨hg.1, ?_⟩
  have := hg.2
  unfold oldI at this ⊢
  rw [if_pos o1] at this
  rw [if_pos o2]
  split at this <;> split <;> omega
set_option maxHeartbeats 4000000 in
set_option maxRecDepth 100000 in
theorem own_y_bad {t now w n i k later : Int} {x b : Int} (HT : Hid (∀ w1, Calls Try.prog 6 #[.int .i64 (t), .int .i64 (w)] w1 fun e w' => e = .returned (.tuple #[.int .i64 x, .int .i64 0]) ∧ w1 = w')) (HB : Hid (∀ w1, Calls Try.prog 8 #[.int .i64 (x), .int .i64 (w)] w1 fun e w' => e = .returned (.tuple #[.int .i64 b, .int .i64 0]) ∧ w1 = w')) (t0 : b ≤ t) (t1 : t - b < w) (t2 : 0 ≤ b) (t3 : t ≤ 35184372088831) {C Ce : Int} (HO : Hid (∀ w1, Calls Try.prog 10 #[.int .i64 (now), .int .i64 (w), .int .i64 (n)] w1 fun e w' => e = .returned (.tuple #[.int .i64 0, .int .i64 1]) ∧ w1 = w')) (HC : Hid (∀ w1, Calls Try.prog 6 #[.int .i64 (now), .int .i64 (w)] w1 fun e w' => e = .returned (.tuple #[.int .i64 C, .int .i64 Ce]) ∧ w1 = w')) (w0 : World) : Calls Try.prog 4 #[.int .i64 t, .int .i64 now, .int .i64 w, .int .i64 n, .int .i64 i, .int .i64 k, .int .u32 later] w0 fun e w' => e = .returned (.bool true) ∧ Qt w0 w' := by
  go_enter Try.func4, Try.ntmps4
  go_wp2_with (first | (go_at_call 14; (with_reducible refine (lives_any _).mono ?_); rintro e w1 ⟨rfl, m, rfl⟩) | (go_at_call 6; (with_reducible refine (HT.out _).mono ?_); rintro e w1 ⟨rfl, rfl⟩) | (go_at_call 8; (with_reducible refine (HB.out _).mono ?_); rintro e w1 ⟨rfl, rfl⟩) | (go_at_call 10; (with_reducible refine (HO.out _).mono ?_); rintro e w1 ⟨rfl, rfl⟩) | (go_at_call 6; (with_reducible refine (HC.out _).mono ?_); rintro e w1 ⟨rfl, rfl⟩))
  go_ret
  exact ⟨rfl, by repeat (first | exact Qt.refl _ | apply Qt.d)⟩
set_option maxHeartbeats 4000000 in
set_option maxRecDepth 100000 in
theorem own_n_bad {t now w n i k later : Int} (HT : Hid (∀ w1, Calls Try.prog 6 #[.int .i64 (t), .int .i64 (w)] w1 fun e w' => e = .returned (.tuple #[.int .i64 0, .int .i64 1]) ∧ w1 = w')) {C Ce : Int} (HO : Hid (∀ w1, Calls Try.prog 10 #[.int .i64 (now), .int .i64 (w), .int .i64 (n)] w1 fun e w' => e = .returned (.tuple #[.int .i64 0, .int .i64 1]) ∧ w1 = w')) (HC : Hid (∀ w1, Calls Try.prog 6 #[.int .i64 (now), .int .i64 (w)] w1 fun e w' => e = .returned (.tuple #[.int .i64 C, .int .i64 Ce]) ∧ w1 = w')) (w0 : World) : Calls Try.prog 4 #[.int .i64 t, .int .i64 now, .int .i64 w, .int .i64 n, .int .i64 i, .int .i64 k, .int .u32 later] w0 fun e w' => e = .returned (.bool true) ∧ Qt w0 w' := by
  go_enter Try.func4, Try.ntmps4
  go_wp2_with (first | (go_at_call 14; (with_reducible refine (lives_any _).mono ?_); rintro e w1 ⟨rfl, m, rfl⟩) | (go_at_call 6; (with_reducible refine (HT.out _).mono ?_); rintro e w1 ⟨rfl, rfl⟩) | (go_at_call 10; (with_reducible refine (HO.out _).mono ?_); rintro e w1 ⟨rfl, rfl⟩) | (go_at_call 6; (with_reducible refine (HC.out _).mono ?_); rintro e w1 ⟨rfl, rfl⟩))
  go_ret
  exact ⟨rfl, by repeat (first | exact Qt.refl _ | apply Qt.d)⟩
set_option maxHeartbeats 4000000 in
set_option maxRecDepth 100000 in
theorem own_y_a0 {t now w n i k later : Int} {x b : Int} (HT : Hid (∀ w1, Calls Try.prog 6 #[.int .i64 (t), .int .i64 (w)] w1 fun e w' => e = .returned (.tuple #[.int .i64 x, .int .i64 0]) ∧ w1 = w')) (HB : Hid (∀ w1, Calls Try.prog 8 #[.int .i64 (x), .int .i64 (w)] w1 fun e w' => e = .returned (.tuple #[.int .i64 b, .int .i64 0]) ∧ w1 = w')) (t0 : b ≤ t) (t1 : t - b < w) (t2 : 0 ≤ b) (t3 : t ≤ 35184372088831) {o c : Int} (HO : Hid (∀ w1, Calls Try.prog 10 #[.int .i64 (now), .int .i64 (w), .int .i64 (n)] w1 fun e w' => e = .returned (.tuple #[.int .i64 o, .int .i64 0]) ∧ w1 = w')) (HC : Hid (∀ w1, Calls Try.prog 6 #[.int .i64 (now), .int .i64 (w)] w1 fun e w' => e = .returned (.tuple #[.int .i64 c, .int .i64 0]) ∧ w1 = w')) (oc : o ≤ c) (m0 : 0 ≤ now) (m1 : now ≤ 35184372088831) (l0 : 0 ≤ later) (l1 : later ≤ 4294967295) (i0 : i < o) (HG : Hid (∀ w1, Calls Try.prog 17 #[.int .i64 (t), .int .i64 (now), .int .i64 (w), .int .i64 (n)] w1 fun e w' => e = .returned (.bool false) ∧ w1 = w'))  (w0 : World) : Calls Try.prog 4 #[.int .i64 t, .int .i64 now, .int .i64 w, .int .i64 n, .int .i64 i, .int .i64 k, .int .u32 later] w0 fun e w' => e = .returned (.bool true) ∧ Qt w0 w' := by
  have a1 : decide (o ≤ i) = false := by simp; omega
  go_enter Try.func4, Try.ntmps4
  go_wp2_with (first | (go_at_call 14; (with_reducible refine (lives_any _).mono ?_); rintro e w1 ⟨rfl, m, rfl⟩) | (go_at_call 6; (with_reducible refine (HT.out _).mono ?_); rintro e w1 ⟨rfl, rfl⟩) | (go_at_call 8; (with_reducible refine (HB.out _).mono ?_); rintro e w1 ⟨rfl, rfl⟩) | (go_at_call 10; (with_reducible refine (HO.out _).mono ?_); rintro e w1 ⟨rfl, rfl⟩) | (go_at_call 6; (with_reducible refine (HC.out _).mono ?_); rintro e w1 ⟨rfl, rfl⟩) | (go_at_call 17; (with_reducible refine (HG.out _).mono ?_); rintro e w1 ⟨rfl, rfl⟩))
  go_ret
  exact ⟨rfl, by repeat (first | exact Qt.refl _ | apply Qt.d)⟩
set_option maxHeartbeats 4000000 in
set_option maxRecDepth 100000 in
theorem own_y_b0 {t now w n i k later : Int} {x b : Int} (HT : Hid (∀ w1, Calls Try.prog 6 #[.int .i64 (t), .int .i64 (w)] w1 fun e w' => e = .returned (.tuple #[.int .i64 x, .int .i64 0]) ∧ w1 = w')) (HB : Hid (∀ w1, Calls Try.prog 8 #[.int .i64 (x), .int .i64 (w)] w1 fun e w' => e = .returned (.tuple #[.int .i64 b, .int .i64 0]) ∧ w1 = w')) (t0 : b ≤ t) (t1 : t - b < w) (t2 : 0 ≤ b) (t3 : t ≤ 35184372088831) {o c : Int} (HO : Hid (∀ w1, Calls Try.prog 10 #[.int .i64 (now), .int .i64 (w), .int .i64 (n)] w1 fun e w' => e = .returned (.tuple #[.int .i64 o, .int .i64 0]) ∧ w1 = w')) (HC : Hid (∀ w1, Calls Try.prog 6 #[.int .i64 (now), .int .i64 (w)] w1 fun e w' => e = .returned (.tuple #[.int .i64 c, .int .i64 0]) ∧ w1 = w')) (oc : o ≤ c) (m0 : 0 ≤ now) (m1 : now ≤ 35184372088831) (l0 : 0 ≤ later) (l1 : later ≤ 4294967295) (i0 : o ≤ i) (i1 : c < i) (HG : Hid (∀ w1, Calls Try.prog 17 #[.int .i64 (t), .int .i64 (now), .int .i64 (w), .int .i64 (n)] w1 fun e w' => e = .returned (.bool false) ∧ w1 = w'))  (w0 : World) : Calls Try.prog 4 #[.int .i64 t, .int .i64 now, .int .i64 w, .int .i64 n, .int .i64 i, .int .i64 k, .int .u32 later] w0 fun e w' => e = .returned (.bool true) ∧ Qt w0 w' := by
  have a1 : decide (i ≤ c) = false := by simp; omega
  go_enter Try.func4, Try.ntmps4
  go_wp2_with (first | (go_at_call 14; (with_reducible refine (lives_any _).mono ?_); rintro e w1 ⟨rfl, m, rfl⟩) | (go_at_call 6; (with_reducible refine (HT.out _).mono ?_); rintro e w1 ⟨rfl, rfl⟩) | (go_at_call 8; (with_reducible refine (HB.out _).mono ?_); rintro e w1 ⟨rfl, rfl⟩) | (go_at_call 10; (with_reducible refine (HO.out _).mono ?_); rintro e w1 ⟨rfl, rfl⟩) | (go_at_call 6; (with_reducible refine (HC.out _).mono ?_); rintro e w1 ⟨rfl, rfl⟩) | (go_at_call 17; (with_reducible refine (HG.out _).mono ?_); rintro e w1 ⟨rfl, rfl⟩))
  go_ret
  exact ⟨rfl, by repeat (first | exact Qt.refl _ | apply Qt.d)⟩
set_option maxHeartbeats 4000000 in
set_option maxRecDepth 100000 in
theorem own_y_c0 {t now w n i k later : Int} {x b : Int} (HT : Hid (∀ w1, Calls Try.prog 6 #[.int .i64 (t), .int .i64 (w)] w1 fun e w' => e = .returned (.tuple #[.int .i64 x, .int .i64 0]) ∧ w1 = w')) (HB : Hid (∀ w1, Calls Try.prog 8 #[.int .i64 (x), .int .i64 (w)] w1 fun e w' => e = .returned (.tuple #[.int .i64 b, .int .i64 0]) ∧ w1 = w')) (t0 : b ≤ t) (t1 : t - b < w) (t2 : 0 ≤ b) (t3 : t ≤ 35184372088831) {o c : Int} (HO : Hid (∀ w1, Calls Try.prog 10 #[.int .i64 (now), .int .i64 (w), .int .i64 (n)] w1 fun e w' => e = .returned (.tuple #[.int .i64 o, .int .i64 0]) ∧ w1 = w')) (HC : Hid (∀ w1, Calls Try.prog 6 #[.int .i64 (now), .int .i64 (w)] w1 fun e w' => e = .returned (.tuple #[.int .i64 c, .int .i64 0]) ∧ w1 = w')) (oc : o ≤ c) (m0 : 0 ≤ now) (m1 : now ≤ 35184372088831) (l0 : 0 ≤ later) (l1 : later ≤ 4294967295) (i0 : o ≤ i) (i1 : i ≤ c) (k0 : k < o) (HG : Hid (∀ w1, Calls Try.prog 17 #[.int .i64 (t), .int .i64 (now), .int .i64 (w), .int .i64 (n)] w1 fun e w' => e = .returned (.bool false) ∧ w1 = w'))  (w0 : World) : Calls Try.prog 4 #[.int .i64 t, .int .i64 now, .int .i64 w, .int .i64 n, .int .i64 i, .int .i64 k, .int .u32 later] w0 fun e w' => e = .returned (.bool true) ∧ Qt w0 w' := by
  have a1 : decide (o ≤ k) = false := by simp; omega
  go_enter Try.func4, Try.ntmps4
  go_wp2_with (first | (go_at_call 14; (with_reducible refine (lives_any _).mono ?_); rintro e w1 ⟨rfl, m, rfl⟩) | (go_at_call 6; (with_reducible refine (HT.out _).mono ?_); rintro e w1 ⟨rfl, rfl⟩) | (go_at_call 8; (with_reducible refine (HB.out _).mono ?_); rintro e w1 ⟨rfl, rfl⟩) | (go_at_call 10; (with_reducible refine (HO.out _).mono ?_); rintro e w1 ⟨rfl, rfl⟩) | (go_at_call 6; (with_reducible refine (HC.out _).mono ?_); rintro e w1 ⟨rfl, rfl⟩) | (go_at_call 17; (with_reducible refine (HG.out _).mono ?_); rintro e w1 ⟨rfl, rfl⟩))
  go_ret
  exact ⟨rfl, by repeat (first | exact Qt.refl _ | apply Qt.d)⟩
set_option maxHeartbeats 4000000 in
set_option maxRecDepth 100000 in
theorem own_y_d0 {t now w n i k later : Int} {x b : Int} (HT : Hid (∀ w1, Calls Try.prog 6 #[.int .i64 (t), .int .i64 (w)] w1 fun e w' => e = .returned (.tuple #[.int .i64 x, .int .i64 0]) ∧ w1 = w')) (HB : Hid (∀ w1, Calls Try.prog 8 #[.int .i64 (x), .int .i64 (w)] w1 fun e w' => e = .returned (.tuple #[.int .i64 b, .int .i64 0]) ∧ w1 = w')) (t0 : b ≤ t) (t1 : t - b < w) (t2 : 0 ≤ b) (t3 : t ≤ 35184372088831) {o c : Int} (HO : Hid (∀ w1, Calls Try.prog 10 #[.int .i64 (now), .int .i64 (w), .int .i64 (n)] w1 fun e w' => e = .returned (.tuple #[.int .i64 o, .int .i64 0]) ∧ w1 = w')) (HC : Hid (∀ w1, Calls Try.prog 6 #[.int .i64 (now), .int .i64 (w)] w1 fun e w' => e = .returned (.tuple #[.int .i64 c, .int .i64 0]) ∧ w1 = w')) (oc : o ≤ c) (m0 : 0 ≤ now) (m1 : now ≤ 35184372088831) (l0 : 0 ≤ later) (l1 : later ≤ 4294967295) (i0 : o ≤ i) (i1 : i ≤ c) (k0 : o ≤ k) (k1 : c < k) (HG : Hid (∀ w1, Calls Try.prog 17 #[.int .i64 (t), .int .i64 (now), .int .i64 (w), .int .i64 (n)] w1 fun e w' => e = .returned (.bool false) ∧ w1 = w'))  (w0 : World) : Calls Try.prog 4 #[.int .i64 t, .int .i64 now, .int .i64 w, .int .i64 n, .int .i64 i, .int .i64 k, .int .u32 later] w0 fun e w' => e = .returned (.bool true) ∧ Qt w0 w' := by
  have a1 : decide (k ≤ c) = false := by simp; omega
  go_enter Try.func4, Try.ntmps4
  go_wp2_with (first | (go_at_call 14; (with_reducible refine (lives_any _).mono ?_); rintro e w1 ⟨rfl, m, rfl⟩) | (go_at_call 6; (with_reducible refine (HT.out _).mono ?_); rintro e w1 ⟨rfl, rfl⟩) | (go_at_call 8; (with_reducible refine (HB.out _).mono ?_); rintro e w1 ⟨rfl, rfl⟩) | (go_at_call 10; (with_reducible refine (HO.out _).mono ?_); rintro e w1 ⟨rfl, rfl⟩) | (go_at_call 6; (with_reducible refine (HC.out _).mono ?_); rintro e w1 ⟨rfl, rfl⟩) | (go_at_call 17; (with_reducible refine (HG.out _).mono ?_); rintro e w1 ⟨rfl, rfl⟩))
  go_ret
  exact ⟨rfl, by repeat (first | exact Qt.refl _ | apply Qt.d)⟩
set_option maxHeartbeats 4000000 in
set_option maxRecDepth 100000 in
theorem own_y_f0 {t now w n i k later : Int} {x b : Int} (HT : Hid (∀ w1, Calls Try.prog 6 #[.int .i64 (t), .int .i64 (w)] w1 fun e w' => e = .returned (.tuple #[.int .i64 x, .int .i64 0]) ∧ w1 = w')) (HB : Hid (∀ w1, Calls Try.prog 8 #[.int .i64 (x), .int .i64 (w)] w1 fun e w' => e = .returned (.tuple #[.int .i64 b, .int .i64 0]) ∧ w1 = w')) (t0 : b ≤ t) (t1 : t - b < w) (t2 : 0 ≤ b) (t3 : t ≤ 35184372088831) {o c : Int} (HO : Hid (∀ w1, Calls Try.prog 10 #[.int .i64 (now), .int .i64 (w), .int .i64 (n)] w1 fun e w' => e = .returned (.tuple #[.int .i64 o, .int .i64 0]) ∧ w1 = w')) (HC : Hid (∀ w1, Calls Try.prog 6 #[.int .i64 (now), .int .i64 (w)] w1 fun e w' => e = .returned (.tuple #[.int .i64 c, .int .i64 0]) ∧ w1 = w')) (oc : o ≤ c) (m0 : 0 ≤ now) (m1 : now ≤ 35184372088831) (l0 : 0 ≤ later) (l1 : later ≤ 4294967295) (i0 : o ≤ i) (i1 : i ≤ c) (k0 : o ≤ k) (k1 : k ≤ c) {si sk : Int} (HSi : Hid (∀ w1, Calls Try.prog 15 #[.int .i64 (i), .int .i64 (n)] w1 fun e w' => e = .returned (.int .i64 si) ∧ w1 = w')) (HSk : Hid (∀ w1, Calls Try.prog 15 #[.int .i64 (k), .int .i64 (n)] w1 fun e w' => e = .returned (.int .i64 sk) ∧ w1 = w')) (d1 : (si == sk) = false) (d2 : (i == k) = false) (HG : Hid (∀ w1, Calls Try.prog 17 #[.int .i64 (t), .int .i64 (now), .int .i64 (w), .int .i64 (n)] w1 fun e w' => e = .returned (.bool false) ∧ w1 = w'))  (w0 : World) : Calls Try.prog 4 #[.int .i64 t, .int .i64 now, .int .i64 w, .int .i64 n, .int .i64 i, .int .i64 k, .int .u32 later] w0 fun e w' => e = .returned (.bool true) ∧ Qt w0 w' := by
  go_enter Try.func4, Try.ntmps4
  go_wp2_with (first | (go_at_call 14; (with_reducible refine (lives_any _).mono ?_); rintro e w1 ⟨rfl, m, rfl⟩) | (go_at_call 6; (with_reducible refine (HT.out _).mono ?_); rintro e w1 ⟨rfl, rfl⟩) | (go_at_call 8; (with_reducible refine (HB.out _).mono ?_); rintro e w1 ⟨rfl, rfl⟩) | (go_at_call 10; (with_reducible refine (HO.out _).mono ?_); rintro e w1 ⟨rfl, rfl⟩) | (go_at_call 6; (with_reducible refine (HC.out _).mono ?_); rintro e w1 ⟨rfl, rfl⟩) | (go_at_call 15; (with_reducible refine (HSi.out _).mono ?_); rintro e w1 ⟨rfl, rfl⟩) | (go_at_call 15; (with_reducible refine (HSk.out _).mono ?_); rintro e w1 ⟨rfl, rfl⟩) | (go_at_call 17; (with_reducible refine (HG.out _).mono ?_); rintro e w1 ⟨rfl, rfl⟩))
  go_ret
  exact ⟨rfl, by repeat (first | exact Qt.refl _ | apply Qt.d)⟩
set_option maxHeartbeats 4000000 in
set_option maxRecDepth 100000 in
theorem own_y_e0 {t now w n i later : Int} {x b : Int} (HT : Hid (∀ w1, Calls Try.prog 6 #[.int .i64 (t), .int .i64 (w)] w1 fun e w' => e = .returned (.tuple #[.int .i64 x, .int .i64 0]) ∧ w1 = w')) (HB : Hid (∀ w1, Calls Try.prog 8 #[.int .i64 (x), .int .i64 (w)] w1 fun e w' => e = .returned (.tuple #[.int .i64 b, .int .i64 0]) ∧ w1 = w')) (t0 : b ≤ t) (t1 : t - b < w) (t2 : 0 ≤ b) (t3 : t ≤ 35184372088831) {o c : Int} (HO : Hid (∀ w1, Calls Try.prog 10 #[.int .i64 (now), .int .i64 (w), .int .i64 (n)] w1 fun e w' => e = .returned (.tuple #[.int .i64 o, .int .i64 0]) ∧ w1 = w')) (HC : Hid (∀ w1, Calls Try.prog 6 #[.int .i64 (now), .int .i64 (w)] w1 fun e w' => e = .returned (.tuple #[.int .i64 c, .int .i64 0]) ∧ w1 = w')) (oc : o ≤ c) (m0 : 0 ≤ now) (m1 : now ≤ 35184372088831) (l0 : 0 ≤ later) (l1 : later ≤ 4294967295) (i0 : o ≤ i) (i1 : i ≤ c) {si : Int} (HSi : Hid (∀ w1, Calls Try.prog 15 #[.int .i64 (i), .int .i64 (n)] w1 fun e w' => e = .returned (.int .i64 si) ∧ w1 = w')) (HG : Hid (∀ w1, Calls Try.prog 17 #[.int .i64 (t), .int .i64 (now), .int .i64 (w), .int .i64 (n)] w1 fun e w' => e = .returned (.bool false) ∧ w1 = w'))  (w0 : World) : Calls Try.prog 4 #[.int .i64 t, .int .i64 now, .int .i64 w, .int .i64 n, .int .i64 i, .int .i64 i, .int .u32 later] w0 fun e w' => e = .returned (.bool true) ∧ Qt w0 w' := by
  go_enter Try.func4, Try.ntmps4
  go_wp2_with (first | (go_at_call 14; (with_reducible refine (lives_any _).mono ?_); rintro e w1 ⟨rfl, m, rfl⟩) | (go_at_call 6; (with_reducible refine (HT.out _).mono ?_); rintro e w1 ⟨rfl, rfl⟩) | (go_at_call 8; (with_reducible refine (HB.out _).mono ?_); rintro e w1 ⟨rfl, rfl⟩) | (go_at_call 10; (with_reducible refine (HO.out _).mono ?_); rintro e w1 ⟨rfl, rfl⟩) | (go_at_call 6; (with_reducible refine (HC.out _).mono ?_); rintro e w1 ⟨rfl, rfl⟩) | (go_at_call 15; (with_reducible refine (HSi.out _).mono ?_); rintro e w1 ⟨rfl, rfl⟩) | (go_at_call 17; (with_reducible refine (HG.out _).mono ?_); rintro e w1 ⟨rfl, rfl⟩))
  go_ret
  exact ⟨rfl, by repeat (first | exact Qt.refl _ | apply Qt.d)⟩
set_option maxHeartbeats 4000000 in
set_option maxRecDepth 100000 in
theorem own_y_a1 {t now w n i k later : Int} {x b : Int} (HT : Hid (∀ w1, Calls Try.prog 6 #[.int .i64 (t), .int .i64 (w)] w1 fun e w' => e = .returned (.tuple #[.int .i64 x, .int .i64 0]) ∧ w1 = w')) (HB : Hid (∀ w1, Calls Try.prog 8 #[.int .i64 (x), .int .i64 (w)] w1 fun e w' => e = .returned (.tuple #[.int .i64 b, .int .i64 0]) ∧ w1 = w')) (t0 : b ≤ t) (t1 : t - b < w) (t2 : 0 ≤ b) (t3 : t ≤ 35184372088831) {o c : Int} (HO : Hid (∀ w1, Calls Try.prog 10 #[.int .i64 (now), .int .i64 (w), .int .i64 (n)] w1 fun e w' => e = .returned (.tuple #[.int .i64 o, .int .i64 0]) ∧ w1 = w')) (HC : Hid (∀ w1, Calls Try.prog 6 #[.int .i64 (now), .int .i64 (w)] w1 fun e w' => e = .returned (.tuple #[.int .i64 c, .int .i64 0]) ∧ w1 = w')) (oc : o ≤ c) (m0 : 0 ≤ now) (m1 : now ≤ 35184372088831) (l0 : 0 ≤ later) (l1 : later ≤ 4294967295) (i0 : i < o) (HG : Hid (∀ w1, Calls Try.prog 17 #[.int .i64 (t), .int .i64 (now), .int .i64 (w), .int .i64 (n)] w1 fun e w' => e = .returned (.bool true) ∧ w1 = w')) (g1 : 35184372088832 ≤ now + later)  (w0 : World) : Calls Try.prog 4 #[.int .i64 t, .int .i64 now, .int .i64 w, .int .i64 n, .int .i64 i, .int .i64 k, .int .u32 later] w0 fun e w' => e = .returned (.bool true) ∧ Qt w0 w' := by
  have a1 : decide (o ≤ i) = false := by simp; omega
  go_enter Try.func4, Try.ntmps4
  go_wp2_with (first | (go_at_call 14; (with_reducible refine (lives_any _).mono ?_); rintro e w1 ⟨rfl, m, rfl⟩) | (go_at_call 6; (with_reducible refine (HT.out _).mono ?_); rintro e w1 ⟨rfl, rfl⟩) | (go_at_call 8; (with_reducible refine (HB.out _).mono ?_); rintro e w1 ⟨rfl, rfl⟩) | (go_at_call 10; (with_reducible refine (HO.out _).mono ?_); rintro e w1 ⟨rfl, rfl⟩) | (go_at_call 6; (with_reducible refine (HC.out _).mono ?_); rintro e w1 ⟨rfl, rfl⟩) | (go_at_call 17; (with_reducible refine (HG.out _).mono ?_); rintro e w1 ⟨rfl, rfl⟩))
  go_ret
  exact ⟨rfl, by repeat (first | exact Qt.refl _ | apply Qt.d)⟩
set_option maxHeartbeats 4000000 in
set_option maxRecDepth 100000 in
theorem own_y_b1 {t now w n i k later : Int} {x b : Int} (HT : Hid (∀ w1, Calls Try.prog 6 #[.int .i64 (t), .int .i64 (w)] w1 fun e w' => e = .returned (.tuple #[.int .i64 x, .int .i64 0]) ∧ w1 = w')) (HB : Hid (∀ w1, Calls Try.prog 8 #[.int .i64 (x), .int .i64 (w)] w1 fun e w' => e = .returned (.tuple #[.int .i64 b, .int .i64 0]) ∧ w1 = w')) (t0 : b ≤ t) (t1 : t - b < w) (t2 : 0 ≤ b) (t3 : t ≤ 35184372088831) {o c : Int} (HO : Hid (∀ w1, Calls Try.prog 10 #[.int .i64 (now), .int .i64 (w), .int .i64 (n)] w1 fun e w' => e = .returned (.tuple #[.int .i64 o, .int .i64 0]) ∧ w1 = w')) (HC : Hid (∀ w1, Calls Try.prog 6 #[.int .i64 (now), .int .i64 (w)] w1 fun e w' => e = .returned (.tuple #[.int .i64 c, .int .i64 0]) ∧ w1 = w')) (oc : o ≤ c) (m0 : 0 ≤ now) (m1 : now ≤ 35184372088831) (l0 : 0 ≤ later) (l1 : later ≤ 4294967295) (i0 : o ≤ i) (i1 : c < i) (HG : Hid (∀ w1, Calls Try.prog 17 #[.int .i64 (t), .int .i64 (now), .int .i64 (w), .int .i64 (n)] w1 fun e w' => e = .returned (.bool true) ∧ w1 = w')) (g1 : 35184372088832 ≤ now + later)  (w0 : World) : Calls Try.prog 4 #[.int .i64 t, .int .i64 now, .int .i64 w, .int .i64 n, .int .i64 i, .int .i64 k, .int .u32 later] w0 fun e w' => e = .returned (.bool true) ∧ Qt w0 w' := by
  have a1 : decide (i ≤ c) = false := by simp; omega
  go_enter Try.func4, Try.ntmps4
  go_wp2_with (first | (go_at_call 14; (with_reducible refine (lives_any _).mono ?_); rintro e w1 ⟨rfl, m, rfl⟩) | (go_at_call 6; (with_reducible refine (HT.out _).mono ?_); rintro e w1 ⟨rfl, rfl⟩) | (go_at_call 8; (with_reducible refine (HB.out _).mono ?_); rintro e w1 ⟨rfl, rfl⟩) | (go_at_call 10; (with_reducible refine (HO.out _).mono ?_); rintro e w1 ⟨rfl, rfl⟩) | (go_at_call 6; (with_reducible refine (HC.out _).mono ?_); rintro e w1 ⟨rfl, rfl⟩) | (go_at_call 17; (with_reducible refine (HG.out _).mono ?_); rintro e w1 ⟨rfl, rfl⟩))
  go_ret
  exact ⟨rfl, by repeat (first | exact Qt.refl _ | apply Qt.d)⟩
set_option maxHeartbeats 4000000 in
set_option maxRecDepth 100000 in
theorem own_y_c1 {t now w n i k later : Int} {x b : Int} (HT : Hid (∀ w1, Calls Try.prog 6 #[.int .i64 (t), .int .i64 (w)] w1 fun e w' => e = .returned (.tuple #[.int .i64 x, .int .i64 0]) ∧ w1 = w')) (HB : Hid (∀ w1, Calls Try.prog 8 #[.int .i64 (x), .int .i64 (w)] w1 fun e w' => e = .returned (.tuple #[.int .i64 b, .int .i64 0]) ∧ w1 = w')) (t0 : b ≤ t) (t1 : t - b < w) (t2 : 0 ≤ b) (t3 : t ≤ 35184372088831) {o c : Int} (HO : Hid (∀ w1, Calls Try.prog 10 #[.int .i64 (now), .int .i64 (w), .int .i64 (n)] w1 fun e w' => e = .returned (.tuple #[.int .i64 o, .int .i64 0]) ∧ w1 = w')) (HC : Hid (∀ w1, Calls Try.prog 6 #[.int .i64 (now), .int .i64 (w)] w1 fun e w' => e = .returned (.tuple #[.int .i64 c, .int .i64 0]) ∧ w1 = w')) (oc : o ≤ c) (m0 : 0 ≤ now) (m1 : now ≤ 35184372088831) (l0 : 0 ≤ later) (l1 : later ≤ 4294967295) (i0 : o ≤ i) (i1 : i ≤ c) (k0 : k < o) (HG : Hid (∀ w1, Calls Try.prog 17 #[.int .i64 (t), .int .i64 (now), .int .i64 (w), .int .i64 (n)] w1 fun e w' => e = .returned (.bool true) ∧ w1 = w')) (g1 : 35184372088832 ≤ now + later)  (w0 : World) : Calls Try.prog 4 #[.int .i64 t, .int .i64 now, .int .i64 w, .int .i64 n, .int .i64 i, .int .i64 k, .int .u32 later] w0 fun e w' => e = .returned (.bool true) ∧ Qt w0 w' := by
  have a1 : decide (o ≤ k) = false := by simp; omega
  go_enter Try.func4, Try.ntmps4
  go_wp2_with (first | (go_at_call 14; (with_reducible refine (lives_any _).mono ?_); rintro e w1 ⟨rfl, m, rfl⟩) | (go_at_call 6; (with_reducible refine (HT.out _).mono ?_); rintro e w1 ⟨rfl, rfl⟩) | (go_at_call 8; (with_reducible refine (HB.out _).mono ?_); rintro e w1 ⟨rfl, rfl⟩) | (go_at_call 10; (with_reducible refine (HO.out _).mono ?_); rintro e w1 ⟨rfl, rfl⟩) | (go_at_call 6; (with_reducible refine (HC.out _).mono ?_); rintro e w1 ⟨rfl, rfl⟩) | (go_at_call 17; (with_reducible refine (HG.out _).mono ?_); rintro e w1 ⟨rfl, rfl⟩))
  go_ret
  exact ⟨rfl, by repeat (first | exact Qt.refl _ | apply Qt.d)⟩
set_option maxHeartbeats 4000000 in
set_option maxRecDepth 100000 in
theorem own_y_d1 {t now w n i k later : Int} {x b : Int} (HT : Hid (∀ w1, Calls Try.prog 6 #[.int .i64 (t), .int .i64 (w)] w1 fun e w' => e = .returned (.tuple #[.int .i64 x, .int .i64 0]) ∧ w1 = w')) (HB : Hid (∀ w1, Calls Try.prog 8 #[.int .i64 (x), .int .i64 (w)] w1 fun e w' => e = .returned (.tuple #[.int .i64 b, .int .i64 0]) ∧ w1 = w')) (t0 : b ≤ t) (t1 : t - b < w) (t2 : 0 ≤ b) (t3 : t ≤ 35184372088831) {o c : Int} (HO : Hid (∀ w1, Calls Try.prog 10 #[.int .i64 (now), .int .i64 (w), .int .i64 (n)] w1 fun e w' => e = .returned (.tuple #[.int .i64 o, .int .i64 0]) ∧ w1 = w')) (HC : Hid (∀ w1, Calls Try.prog 6 #[.int .i64 (now), .int .i64 (w)] w1 fun e w' => e = .returned (.tuple #[.int .i64 c, .int .i64 0]) ∧ w1 = w')) (oc : o ≤ c) (m0 : 0 ≤ now) (m1 : now ≤ 35184372088831) (l0 : 0 ≤ later) (l1 : later ≤ 4294967295) (i0 : o ≤ i) (i1 : i ≤ c) (k0 : o ≤ k) (k1 : c < k) (HG : Hid (∀ w1, Calls Try.prog 17 #[.int .i64 (t), .int .i64 (now), .int .i64 (w), .int .i64 (n)] w1 fun e w' => e = .returned (.bool true) ∧ w1 = w')) (g1 : 35184372088832 ≤ now + later)  (w0 : World) : Calls Try.prog 4 #[.int .i64 t, .int .i64 now, .int .i64 w, .int .i64 n, .int .i64 i, .int .i64 k, .int .u32 later] w0 fun e w' => e = .returned (.bool true) ∧ Qt w0 w' := by
  have a1 : decide (k ≤ c) = false := by simp; omega
  go_enter Try.func4, Try.ntmps4
  go_wp2_with (first | (go_at_call 14; (with_reducible refine (lives_any _).mono ?_); rintro e w1 ⟨rfl, m, rfl⟩) | (go_at_call 6; (with_reducible refine (HT.out _).mono ?_); rintro e w1 ⟨rfl, rfl⟩) | (go_at_call 8; (with_reducible refine (HB.out _).mono ?_); rintro e w1 ⟨rfl, rfl⟩) | (go_at_call 10; (with_reducible refine (HO.out _).mono ?_); rintro e w1 ⟨rfl, rfl⟩) | (go_at_call 6; (with_reducible refine (HC.out _).mono ?_); rintro e w1 ⟨rfl, rfl⟩) | (go_at_call 17; (with_reducible refine (HG.out _).mono ?_); rintro e w1 ⟨rfl, rfl⟩))
  go_ret
  exact ⟨rfl, by repeat (first | exact Qt.refl _ | apply Qt.d)⟩
set_option maxHeartbeats 4000000 in
set_option maxRecDepth 100000 in
theorem own_y_f1 {t now w n i k later : Int} {x b : Int} (HT : Hid (∀ w1, Calls Try.prog 6 #[.int .i64 (t), .int .i64 (w)] w1 fun e w' => e = .returned (.tuple #[.int .i64 x, .int .i64 0]) ∧ w1 = w')) (HB : Hid (∀ w1, Calls Try.prog 8 #[.int .i64 (x), .int .i64 (w)] w1 fun e w' => e = .returned (.tuple #[.int .i64 b, .int .i64 0]) ∧ w1 = w')) (t0 : b ≤ t) (t1 : t - b < w) (t2 : 0 ≤ b) (t3 : t ≤ 35184372088831) {o c : Int} (HO : Hid (∀ w1, Calls Try.prog 10 #[.int .i64 (now), .int .i64 (w), .int .i64 (n)] w1 fun e w' => e = .returned (.tuple #[.int .i64 o, .int .i64 0]) ∧ w1 = w')) (HC : Hid (∀ w1, Calls Try.prog 6 #[.int .i64 (now), .int .i64 (w)] w1 fun e w' => e = .returned (.tuple #[.int .i64 c, .int .i64 0]) ∧ w1 = w')) (oc : o ≤ c) (m0 : 0 ≤ now) (m1 : now ≤ 35184372088831) (l0 : 0 ≤ later) (l1 : later ≤ 4294967295) (i0 : o ≤ i) (i1 : i ≤ c) (k0 : o ≤ k) (k1 : k ≤ c) {si sk : Int} (HSi : Hid (∀ w1, Calls Try.prog 15 #[.int .i64 (i), .int .i64 (n)] w1 fun e w' => e = .returned (.int .i64 si) ∧ w1 = w')) (HSk : Hid (∀ w1, Calls Try.prog 15 #[.int .i64 (k), .int .i64 (n)] w1 fun e w' => e = .returned (.int .i64 sk) ∧ w1 = w')) (d1 : (si == sk) = false) (d2 : (i == k) = false) (HG : Hid (∀ w1, Calls Try.prog 17 #[.int .i64 (t), .int .i64 (now), .int .i64 (w), .int .i64 (n)] w1 fun e w' => e = .returned (.bool true) ∧ w1 = w')) (g1 : 35184372088832 ≤ now + later)  (w0 : World) : Calls Try.prog 4 #[.int .i64 t, .int .i64 now, .int .i64 w, .int .i64 n, .int .i64 i, .int .i64 k, .int .u32 later] w0 fun e w' => e = .returned (.bool true) ∧ Qt w0 w' := by
  go_enter Try.func4, Try.ntmps4
  go_wp2_with (first | (go_at_call 14; (with_reducible refine (lives_any _).mono ?_); rintro e w1 ⟨rfl, m, rfl⟩) | (go_at_call 6; (with_reducible refine (HT.out _).mono ?_); rintro e w1 ⟨rfl, rfl⟩) | (go_at_call 8; (with_reducible refine (HB.out _).mono ?_); rintro e w1 ⟨rfl, rfl⟩) | (go_at_call 10; (with_reducible refine (HO.out _).mono ?_); rintro e w1 ⟨rfl, rfl⟩) | (go_at_call 6; (with_reducible refine (HC.out _).mono ?_); rintro e w1 ⟨rfl, rfl⟩) | (go_at_call 15; (with_reducible refine (HSi.out _).mono ?_); rintro e w1 ⟨rfl, rfl⟩) | (go_at_call 15; (with_reducible refine (HSk.out _).mono ?_); rintro e w1 ⟨rfl, rfl⟩) | (go_at_call 17; (with_reducible refine (HG.out _).mono ?_); rintro e w1 ⟨rfl, rfl⟩))
  go_ret
  exact ⟨rfl, by repeat (first | exact Qt.refl _ | apply Qt.d)⟩
set_option maxHeartbeats 4000000 in
set_option maxRecDepth 100000 in
theorem own_y_e1 {t now w n i later : Int} {x b : Int} (HT : Hid (∀ w1, Calls Try.prog 6 #[.int .i64 (t), .int .i64 (w)] w1 fun e w' => e = .returned (.tuple #[.int .i64 x, .int .i64 0]) ∧ w1 = w')) (HB : Hid (∀ w1, Calls Try.prog 8 #[.int .i64 (x), .int .i64 (w)] w1 fun e w' => e = .returned (.tuple #[.int .i64 b, .int .i64 0]) ∧ w1 = w')) (t0 : b ≤ t) (t1 : t - b < w) (t2 : 0 ≤ b) (t3 : t ≤ 35184372088831) {o c : Int} (HO : Hid (∀ w1, Calls Try.prog 10 #[.int .i64 (now), .int .i64 (w), .int .i64 (n)] w1 fun e w' => e = .returned (.tuple #[.int .i64 o, .int .i64 0]) ∧ w1 = w')) (HC : Hid (∀ w1, Calls Try.prog 6 #[.int .i64 (now), .int .i64 (w)] w1 fun e w' => e = .returned (.tuple #[.int .i64 c, .int .i64 0]) ∧ w1 = w')) (oc : o ≤ c) (m0 : 0 ≤ now) (m1 : now ≤ 35184372088831) (l0 : 0 ≤ later) (l1 : later ≤ 4294967295) (i0 : o ≤ i) (i1 : i ≤ c) {si : Int} (HSi : Hid (∀ w1, Calls Try.prog 15 #[.int .i64 (i), .int .i64 (n)] w1 fun e w' => e = .returned (.int .i64 si) ∧ w1 = w')) (HG : Hid (∀ w1, Calls Try.prog 17 #[.int .i64 (t), .int .i64 (now), .int .i64 (w), .int .i64 (n)] w1 fun e w' => e = .returned (.bool true) ∧ w1 = w')) (g1 : 35184372088832 ≤ now + later)  (w0 : World) : Calls Try.prog 4 #[.int .i64 t, .int .i64 now, .int .i64 w, .int .i64 n, .int .i64 i, .int .i64 i, .int .u32 later] w0 fun e w' => e = .returned (.bool true) ∧ Qt w0 w' := by
  go_enter Try.func4, Try.ntmps4
  go_wp2_with (first | (go_at_call 14; (with_reducible refine (lives_any _).mono ?_); rintro e w1 ⟨rfl, m, rfl⟩) | (go_at_call 6; (with_reducible refine (HT.out _).mono ?_); rintro e w1 ⟨rfl, rfl⟩) | (go_at_call 8; (with_reducible refine (HB.out _).mono ?_); rintro e w1 ⟨rfl, rfl⟩) | (go_at_call 10; (with_reducible refine (HO.out _).mono ?_); rintro e w1 ⟨rfl, rfl⟩) | (go_at_call 6; (with_reducible refine (HC.out _).mono ?_); rintro e w1 ⟨rfl, rfl⟩) | (go_at_call 15; (with_reducible refine (HSi.out _).mono ?_); rintro e w1 ⟨rfl, rfl⟩) | (go_at_call 17; (with_reducible refine (HG.out _).mono ?_); rintro e w1 ⟨rfl, rfl⟩))
  go_ret
  exact ⟨rfl, by repeat (first | exact Qt.refl _ | apply Qt.d)⟩
set_option maxHeartbeats 4000000 in
set_option maxRecDepth 100000 in
theorem own_y_a2 {t now w n i k later : Int} {x b : Int} (HT : Hid (∀ w1, Calls Try.prog 6 #[.int .i64 (t), .int .i64 (w)] w1 fun e w' => e = .returned (.tuple #[.int .i64 x, .int .i64 0]) ∧ w1 = w')) (HB : Hid (∀ w1, Calls Try.prog 8 #[.int .i64 (x), .int .i64 (w)] w1 fun e w' => e = .returned (.tuple #[.int .i64 b, .int .i64 0]) ∧ w1 = w')) (t0 : b ≤ t) (t1 : t - b < w) (t2 : 0 ≤ b) (t3 : t ≤ 35184372088831) {o c : Int} (HO : Hid (∀ w1, Calls Try.prog 10 #[.int .i64 (now), .int .i64 (w), .int .i64 (n)] w1 fun e w' => e = .returned (.tuple #[.int .i64 o, .int .i64 0]) ∧ w1 = w')) (HC : Hid (∀ w1, Calls Try.prog 6 #[.int .i64 (now), .int .i64 (w)] w1 fun e w' => e = .returned (.tuple #[.int .i64 c, .int .i64 0]) ∧ w1 = w')) (oc : o ≤ c) (m0 : 0 ≤ now) (m1 : now ≤ 35184372088831) (l0 : 0 ≤ later) (l1 : later ≤ 4294967295) (i0 : i < o) (HG : Hid (∀ w1, Calls Try.prog 17 #[.int .i64 (t), .int .i64 (now), .int .i64 (w), .int .i64 (n)] w1 fun e w' => e = .returned (.bool true) ∧ w1 = w')) (g1 : now + later < 35184372088832) (HG2 : Hid (∀ w1, Calls Try.prog 17 #[.int .i64 (t), .int .i64 (now + later), .int .i64 (w), .int .i64 (n)] w1 fun e w' => e = .returned (.bool true) ∧ w1 = w'))  (w0 : World) : Calls Try.prog 4 #[.int .i64 t, .int .i64 now, .int .i64 w, .int .i64 n, .int .i64 i, .int .i64 k, .int .u32 later] w0 fun e w' => e = .returned (.bool true) ∧ Qt w0 w' := by
  have a1 : decide (o ≤ i) = false := by simp; omega
  go_enter Try.func4, Try.ntmps4
  go_wp2_with (first | (go_at_call 14; (with_reducible refine (lives_any _).mono ?_); rintro e w1 ⟨rfl, m, rfl⟩) | (go_at_call 6; (with_reducible refine (HT.out _).mono ?_); rintro e w1 ⟨rfl, rfl⟩) | (go_at_call 8; (with_reducible refine (HB.out _).mono ?_); rintro e w1 ⟨rfl, rfl⟩) | (go_at_call 10; (with_reducible refine (HO.out _).mono ?_); rintro e w1 ⟨rfl, rfl⟩) | (go_at_call 6; (with_reducible refine (HC.out _).mono ?_); rintro e w1 ⟨rfl, rfl⟩) | (go_at_call 17; (with_reducible refine (HG.out _).mono ?_); rintro e w1 ⟨rfl, rfl⟩) | (go_at_call 17; (with_reducible refine (HG2.out _).mono ?_); rintro e w1 ⟨rfl, rfl⟩))
  go_ret
  exact ⟨rfl, by repeat (first | exact Qt.refl _ | apply Qt.d)⟩
set_option maxHeartbeats 4000000 in
set_option maxRecDepth 100000 in
theorem own_y_b2 {t now w n i k later : Int} {x b : Int} (HT : Hid (∀ w1, Calls Try.prog 6 #[.int .i64 (t), .int .i64 (w)] w1 fun e w' => e = .returned (.tuple #[.int .i64 x, .int .i64 0]) ∧ w1 = w')) (HB : Hid (∀ w1, Calls Try.prog 8 #[.int .i64 (x), .int .i64 (w)] w1 fun e w' => e = .returned (.tuple #[.int .i64 b, .int .i64 0]) ∧ w1 = w')) (t0 : b ≤ t) (t1 : t - b < w) (t2 : 0 ≤ b) (t3 : t ≤ 35184372088831) {o c : Int} (HO : Hid (∀ w1, Calls Try.prog 10 #[.int .i64 (now), .int .i64 (w), .int .i64 (n)] w1 fun e w' => e = .returned (.tuple #[.int .i64 o, .int .i64 0]) ∧ w1 = w')) (HC : Hid (∀ w1, Calls Try.prog 6 #[.int .i64 (now), .int .i64 (w)] w1 fun e w' => e = .returned (.tuple #[.int .i64 c, .int .i64 0]) ∧ w1 = w')) (oc : o ≤ c) (m0 : 0 ≤ now) (m1 : now ≤ 35184372088831) (l0 : 0 ≤ later) (l1 : later ≤ 4294967295) (i0 : o ≤ i) (i1 : c < i) (HG : Hid (∀ w1, Calls Try.prog 17 #[.int .i64 (t), .int .i64 (now), .int .i64 (w), .int .i64 (n)] w1 fun e w' => e = .returned (.bool true) ∧ w1 = w')) (g1 : now + later < 35184372088832) (HG2 : Hid (∀ w1, Calls Try.prog 17 #[.int .i64 (t), .int .i64 (now + later), .int .i64 (w), .int .i64 (n)] w1 fun e w' => e = .returned (.bool true) ∧ w1 = w'))  (w0 : World) : Calls Try.prog 4 #[.int .i64 t, .int .i64 now, .int .i64 w, .int .i64 n, .int .i64 i, .int .i64 k, .int .u32 later] w0 fun e w' => e = .returned (.bool true) ∧ Qt w0 w' := by
  have a1 : decide (i ≤ c) = false := by simp; omega
  go_enter Try.func4, Try.ntmps4
  go_wp2_with (first | (go_at_call 14; (with_reducible refine (lives_any _).mono ?_); rintro e w1 ⟨rfl, m, rfl⟩) | (go_at_call 6; (with_reducible refine (HT.out _).mono ?_); rintro e w1 ⟨rfl, rfl⟩) | (go_at_call 8; (with_reducible refine (HB.out _).mono ?_); rintro e w1 ⟨rfl, rfl⟩) | (go_at_call 10; (with_reducible refine (HO.out _).mono ?_); rintro e w1 ⟨rfl, rfl⟩) | (go_at_call 6; (with_reducible refine (HC.out _).mono ?_); rintro e w1 ⟨rfl, rfl⟩) | (go_at_call 17; (with_reducible refine (HG.out _).mono ?_); rintro e w1 ⟨rfl, rfl⟩) | (go_at_call 17; (with_reducible refine (HG2.out _).mono ?_); rintro e w1 ⟨rfl, rfl⟩))
  go_ret
  exact ⟨rfl, by repeat (first | exact Qt.refl _ | apply Qt.d)⟩
set_option maxHeartbeats 4000000 in
set_option maxRecDepth 100000 in
theorem own_y_c2 {t now w n i k later : Int} {x b : Int} (HT : Hid (∀ w1, Calls Try.prog 6 #[.int .i64 (t), .int .i64 (w)] w1 fun e w' => e = .returned (.tuple #[.int .i64 x, .int .i64 0]) ∧ w1 = w')) (HB : Hid (∀ w1, Calls Try.prog 8 #[.int .i64 (x), .int .i64 (w)] w1 fun e w' => e = .returned (.tuple #[.int .i64 b, .int .i64 0]) ∧ w1 = w')) (t0 : b ≤ t) (t1 : t - b < w) (t2 : 0 ≤ b) (t3 : t ≤ 35184372088831) {o c : Int} (HO : Hid (∀ w1, Calls Try.prog 10 #[.int .i64 (now), .int .i64 (w), .int .i64 (n)] w1 fun e w' => e = .returned (.tuple #[.int .i64 o, .int .i64 0]) ∧ w1 = w')) (HC : Hid (∀ w1, Calls Try.prog 6 #[.int .i64 (now), .int .i64 (w)] w1 fun e w' => e = .returned (.tuple #[.int .i64 c, .int .i64 0]) ∧ w1 = w')) (oc : o ≤ c) (m0 : 0 ≤ now) (m1 : now ≤ 35184372088831) (l0 : 0 ≤ later) (l1 : later ≤ 4294967295) (i0 : o ≤ i) (i1 : i ≤ c) (k0 : k < o) (HG : Hid (∀ w1, Calls Try.prog 17 #[.int .i64 (t), .int .i64 (now), .int .i64 (w), .int .i64 (n)] w1 fun e w' => e = .returned (.bool true) ∧ w1 = w')) (g1 : now + later < 35184372088832) (HG2 : Hid (∀ w1, Calls Try.prog 17 #[.int .i64 (t), .int .i64 (now + later), .int .i64 (w), .int .i64 (n)] w1 fun e w' => e = .returned (.bool true) ∧ w1 = w'))  (w0 : World) : Calls Try.prog 4 #[.int .i64 t, .int .i64 now, .int .i64 w, .int .i64 n, .int .i64 i, .int .i64 k, .int .u32 later] w0 fun e w' => e = .returned (.bool true) ∧ Qt w0 w' := by
  have a1 : decide (o ≤ k) = false := by simp; omega
  go_enter Try.func4, Try.ntmps4
  go_wp2_with (first | (go_at_call 14; (with_reducible refine (lives_any _).mono ?_); rintro e w1 ⟨rfl, m, rfl⟩) | (go_at_call 6; (with_reducible refine (HT.out _).mono ?_); rintro e w1 ⟨rfl, rfl⟩) | (go_at_call 8; (with_reducible refine (HB.out _).mono ?_); rintro e w1 ⟨rfl, rfl⟩) | (go_at_call 10; (with_reducible refine (HO.out _).mono ?_); rintro e w1 ⟨rfl, rfl⟩) | (go_at_call 6; (with_reducible refine (HC.out _).mono ?_); rintro e w1 ⟨rfl, rfl⟩) | (go_at_call 17; (with_reducible refine (HG.out _).mono ?_); rintro e w1 ⟨rfl, rfl⟩) | (go_at_call 17; (with_reducible refine (HG2.out _).mono ?_); rintro e w1 ⟨rfl, rfl⟩))
  go_ret
  exact ⟨rfl, by repeat (first | exact Qt.refl _ | apply Qt.d)⟩
set_option maxHeartbeats 4000000 in
set_option maxRecDepth 100000 in
theorem own_y_d2 {t now w n i k later : Int} {x b : Int} (HT : Hid (∀ w1, Calls Try.prog 6 #[.int .i64 (t), .int .i64 (w)] w1 fun e w' => e = .returned (.tuple #[.int .i64 x, .int .i64 0]) ∧ w1 = w')) (HB : Hid (∀ w1, Calls Try.prog 8 #[.int .i64 (x), .int .i64 (w)] w1 fun e w' => e = .returned (.tuple #[.int .i64 b, .int .i64 0]) ∧ w1 = w')) (t0 : b ≤ t) (t1 : t - b < w) (t2 : 0 ≤ b) (t3 : t ≤ 35184372088831) {o c : Int} (HO : Hid (∀ w1, Calls Try.prog 10 #[.int .i64 (now), .int .i64 (w), .int .i64 (n)] w1 fun e w' => e = .returned (.tuple #[.int .i64 o, .int .i64 0]) ∧ w1 = w')) (HC : Hid (∀ w1, Calls Try.prog 6 #[.int .i64 (now), .int .i64 (w)] w1 fun e w' => e = .returned (.tuple #[.int .i64 c, .int .i64 0]) ∧ w1 = w')) (oc : o ≤ c) (m0 : 0 ≤ now) (m1 : now ≤ 35184372088831) (l0 : 0 ≤ later) (l1 : later ≤ 4294967295) (i0 : o ≤ i) (i1 : i ≤ c) (k0 : o ≤ k) (k1 : c < k) (HG : Hid (∀ w1, Calls Try.prog 17 #[.int .i64 (t), .int .i64 (now), .int .i64 (w), .int .i64 (n)] w1 fun e w' => e = .returned (.bool true) ∧ w1 = w')) (g1 : now + later < 35184372088832) (HG2 : Hid (∀ w1, Calls Try.prog 17 #[.int .i64 (t), .int .i64 (now + later), .int .i64 (w), .int .i64 (n)] w1 fun e w' => e = .returned (.bool true) ∧ w1 = w'))  (w0 : World) : Calls Try.prog 4 #[.int .i64 t, .int .i64 now, .int .i64 w, .int .i64 n, .int .i64 i, .int .i64 k, .int .u32 later] w0 fun e w' => e = .returned (.bool true) ∧ Qt w0 w' := by
  have a1 : decide (k ≤ c) = false := by simp; omega
  go_enter Try.func4, Try.ntmps4
  go_wp2_with (first | (go_at_call 14; (with_reducible refine (lives_any _).mono ?_); rintro e w1 ⟨rfl, m, rfl⟩) | (go_at_call 6; (with_reducible refine (HT.out _).mono ?_); rintro e w1 ⟨rfl, rfl⟩) | (go_at_call 8; (with_reducible refine (HB.out _).mono ?_); rintro e w1 ⟨rfl, rfl⟩) | (go_at_call 10; (with_reducible refine (HO.out _).mono ?_); rintro e w1 ⟨rfl, rfl⟩) | (go_at_call 6; (with_reducible refine (HC.out _).mono ?_); rintro e w1 ⟨rfl, rfl⟩) | (go_at_call 17; (with_reducible refine (HG.out _).mono ?_); rintro e w1 ⟨rfl, rfl⟩) | (go_at_call 17; (with_reducible refine (HG2.out _).mono ?_); rintro e w1 ⟨rfl, rfl⟩))
  go_ret
  exact ⟨rfl, by repeat (first | exact Qt.refl _ | apply Qt.d)⟩
set_option maxHeartbeats 4000000 in
set_option maxRecDepth 100000 in
theorem own_y_f2 {t now w n i k later : Int} {x b : Int} (HT : Hid (∀ w1, Calls Try.prog 6 #[.int .i64 (t), .int .i64 (w)] w1 fun e w' => e = .returned (.tuple #[.int .i64 x, .int .i64 0]) ∧ w1 = w')) (HB : Hid (∀ w1, Calls Try.prog 8 #[.int .i64 (x), .int .i64 (w)] w1 fun e w' => e = .returned (.tuple #[.int .i64 b, .int .i64 0]) ∧ w1 = w')) (t0 : b ≤ t) (t1 : t - b < w) (t2 : 0 ≤ b) (t3 : t ≤ 35184372088831) {o c : Int} (HO : Hid (∀ w1, Calls Try.prog 10 #[.int .i64 (now), .int .i64 (w), .int .i64 (n)] w1 fun e w' => e = .returned (.tuple #[.int .i64 o, .int .i64 0]) ∧ w1 = w')) (HC : Hid (∀ w1, Calls Try.prog 6 #[.int .i64 (now), .int .i64 (w)] w1 fun e w' => e = .returned (.tuple #[.int .i64 c, .int .i64 0]) ∧ w1 = w')) (oc : o ≤ c) (m0 : 0 ≤ now) (m1 : now ≤ 35184372088831) (l0 : 0 ≤ later) (l1 : later ≤ 4294967295) (i0 : o ≤ i) (i1 : i ≤ c) (k0 : o ≤ k) (k1 : k ≤ c) {si sk : Int} (HSi : Hid (∀ w1, Calls Try.prog 15 #[.int .i64 (i), .int .i64 (n)] w1 fun e w' => e = .returned (.int .i64 si) ∧ w1 = w')) (HSk : Hid (∀ w1, Calls Try.prog 15 #[.int .i64 (k), .int .i64 (n)] w1 fun e w' => e = .returned (.int .i64 sk) ∧ w1 = w')) (d1 : (si == sk) = false) (d2 : (i == k) = false) (HG : Hid (∀ w1, Calls Try.prog 17 #[.int .i64 (t), .int .i64 (now), .int .i64 (w), .int .i64 (n)] w1 fun e w' => e = .returned (.bool true) ∧ w1 = w')) (g1 : now + later < 35184372088832) (HG2 : Hid (∀ w1, Calls Try.prog 17 #[.int .i64 (t), .int .i64 (now + later), .int .i64 (w), .int .i64 (n)] w1 fun e w' => e = .returned (.bool true) ∧ w1 = w'))  (w0 : World) : Calls Try.prog 4 #[.int .i64 t, .int .i64 now, .int .i64 w, .int .i64 n, .int .i64 i, .int .i64 k, .int .u32 later] w0 fun e w' => e = .returned (.bool true) ∧ Qt w0 w' := by
  go_enter Try.func4, Try.ntmps4
  go_wp2_with (first | (go_at_call 14; (with_reducible refine (lives_any _).mono ?_); rintro e w1 ⟨rfl, m, rfl⟩) | (go_at_call 6; (with_reducible refine (HT.out _).mono ?_); rintro e w1 ⟨rfl, rfl⟩) | (go_at_call 8; (with_reducible refine (HB.out _).mono ?_); rintro e w1 ⟨rfl, rfl⟩) | (go_at_call 10; (with_reducible refine (HO.out _).mono ?_); rintro e w1 ⟨rfl, rfl⟩) | (go_at_call 6; (with_reducible refine (HC.out _).mono ?_); rintro e w1 ⟨rfl, rfl⟩) | (go_at_call 15; (with_reducible refine (HSi.out _).mono ?_); rintro e w1 ⟨rfl, rfl⟩) | (go_at_call 15; (with_reducible refine (HSk.out _).mono ?_); rintro e w1 ⟨rfl, rfl⟩) | (go_at_call 17; (with_reducible refine (HG.out _).mono ?_); rintro e w1 ⟨rfl, rfl⟩) | (go_at_call 17; (with_reducible refine (HG2.out _).mono ?_); rintro e w1 ⟨rfl, rfl⟩))
  go_ret
  exact ⟨rfl, by repeat (first | exact Qt.refl _ | apply Qt.d)⟩
set_option maxHeartbeats 4000000 in
set_option maxRecDepth 100000 in
theorem own_y_e2 {t now w n i later : Int} {x b : Int} (HT : Hid (∀ w1, Calls Try.prog 6 #[.int .i64 (t), .int .i64 (w)] w1 fun e w' => e = .returned (.tuple #[.int .i64 x, .int .i64 0]) ∧ w1 = w')) (HB : Hid (∀ w1, Calls Try.prog 8 #[.int .i64 (x), .int .i64 (w)] w1 fun e w' => e = .returned (.tuple #[.int .i64 b, .int .i64 0]) ∧ w1 = w')) (t0 : b ≤ t) (t1 : t - b < w) (t2 : 0 ≤ b) (t3 : t ≤ 35184372088831) {o c : Int} (HO : Hid (∀ w1, Calls Try.prog 10 #[.int .i64 (now), .int .i64 (w), .int .i64 (n)] w1 fun e w' => e = .returned (.tuple #[.int .i64 o, .int .i64 0]) ∧ w1 = w')) (HC : Hid (∀ w1, Calls Try.prog 6 #[.int .i64 (now), .int .i64 (w)] w1 fun e w' => e = .returned (.tuple #[.int .i64 c, .int .i64 0]) ∧ w1 = w')) (oc : o ≤ c) (m0 : 0 ≤ now) (m1 : now ≤ 35184372088831) (l0 : 0 ≤ later) (l1 : later ≤ 4294967295) (i0 : o ≤ i) (i1 : i ≤ c) {si : Int} (HSi : Hid (∀ w1, Calls Try.prog 15 #[.int .i64 (i), .int .i64 (n)] w1 fun e w' => e = .returned (.int .i64 si) ∧ w1 = w')) (HG : Hid (∀ w1, Calls Try.prog 17 #[.int .i64 (t), .int .i64 (now), .int .i64 (w), .int .i64 (n)] w1 fun e w' => e = .returned (.bool true) ∧ w1 = w')) (g1 : now + later < 35184372088832) (HG2 : Hid (∀ w1, Calls Try.prog 17 #[.int .i64 (t), .int .i64 (now + later), .int .i64 (w), .int .i64 (n)] w1 fun e w' => e = .returned (.bool true) ∧ w1 = w'))  (w0 : World) : Calls Try.prog 4 #[.int .i64 t, .int .i64 now, .int .i64 w, .int .i64 n, .int .i64 i, .int .i64 i, .int .u32 later] w0 fun e w' => e = .returned (.bool true) ∧ Qt w0 w' := by
  go_enter Try.func4, Try.ntmps4
  go_wp2_with (first | (go_at_call 14; (with_reducible refine (lives_any _).mono ?_); rintro e w1 ⟨rfl, m, rfl⟩) | (go_at_call 6; (with_reducible refine (HT.out _).mono ?_); rintro e w1 ⟨rfl, rfl⟩) | (go_at_call 8; (with_reducible refine (HB.out _).mono ?_); rintro e w1 ⟨rfl, rfl⟩) | (go_at_call 10; (with_reducible refine (HO.out _).mono ?_); rintro e w1 ⟨rfl, rfl⟩) | (go_at_call 6; (with_reducible refine (HC.out _).mono ?_); rintro e w1 ⟨rfl, rfl⟩) | (go_at_call 15; (with_reducible refine (HSi.out _).mono ?_); rintro e w1 ⟨rfl, rfl⟩) | (go_at_call 17; (with_reducible refine (HG.out _).mono ?_); rintro e w1 ⟨rfl, rfl⟩) | (go_at_call 17; (with_reducible refine (HG2.out _).mono ?_); rintro e w1 ⟨rfl, rfl⟩))
  go_ret
  exact ⟨rfl, by repeat (first | exact Qt.refl _ | apply Qt.d)⟩
set_option maxHeartbeats 4000000 in
set_option maxRecDepth 100000 in
theorem own_n_a0 {t now w n i k later : Int} (HT : Hid (∀ w1, Calls Try.prog 6 #[.int .i64 (t), .int .i64 (w)] w1 fun e w' => e = .returned (.tuple #[.int .i64 0, .int .i64 1]) ∧ w1 = w')) {o c : Int} (HO : Hid (∀ w1, Calls Try.prog 10 #[.int .i64 (now), .int .i64 (w), .int .i64 (n)] w1 fun e w' => e = .returned (.tuple #[.int .i64 o, .int .i64 0]) ∧ w1 = w')) (HC : Hid (∀ w1, Calls Try.prog 6 #[.int .i64 (now), .int .i64 (w)] w1 fun e w' => e = .returned (.tuple #[.int .i64 c, .int .i64 0]) ∧ w1 = w')) (oc : o ≤ c) (m0 : 0 ≤ now) (m1 : now ≤ 35184372088831) (l0 : 0 ≤ later) (l1 : later ≤ 4294967295) (i0 : i < o) (HG : Hid (∀ w1, Calls Try.prog 17 #[.int .i64 (t), .int .i64 (now), .int .i64 (w), .int .i64 (n)] w1 fun e w' => e = .returned (.bool false) ∧ w1 = w'))  (w0 : World) : Calls Try.prog 4 #[.int .i64 t, .int .i64 now, .int .i64 w, .int .i64 n, .int .i64 i, .int .i64 k, .int .u32 later] w0 fun e w' => e = .returned (.bool true) ∧ Qt w0 w' := by
  have a1 : decide (o ≤ i) = false := by simp; omega
  go_enter Try.func4, Try.ntmps4
  go_wp2_with (first | (go_at_call 14; (with_reducible refine (lives_any _).mono ?_); rintro e w1 ⟨rfl, m, rfl⟩) | (go_at_call 6; (with_reducible refine (HT.out _).mono ?_); rintro e w1 ⟨rfl, rfl⟩) | (go_at_call 10; (with_reducible refine (HO.out _).mono ?_); rintro e w1 ⟨rfl, rfl⟩) | (go_at_call 6; (with_reducible refine (HC.out _).mono ?_); rintro e w1 ⟨rfl, rfl⟩) | (go_at_call 17; (with_reducible refine (HG.out _).mono ?_); rintro e w1 ⟨rfl, rfl⟩))
  go_ret
  exact ⟨rfl, by repeat (first | exact Qt.refl _ | apply Qt.d)⟩
set_option maxHeartbeats 4000000 in
set_option maxRecDepth 100000 in
theorem own_n_b0 {t now w n i k later : Int} (HT : Hid (∀ w1, Calls Try.prog 6 #[.int .i64 (t), .int .i64 (w)] w1 fun e w' => e = .returned (.tuple #[.int .i64 0, .int .i64 1]) ∧ w1 = w')) {o c : Int} (HO : Hid (∀ w1, Calls Try.prog 10 #[.int .i64 (now), .int .i64 (w), .int .i64 (n)] w1 fun e w' => e = .returned (.tuple #[.int .i64 o, .int .i64 0]) ∧ w1 = w')) (HC : Hid (∀ w1, Calls Try.prog 6 #[.int .i64 (now), .int .i64 (w)] w1 fun e w' => e = .returned (.tuple #[.int .i64 c, .int .i64 0]) ∧ w1 = w')) (oc : o ≤ c) (m0 : 0 ≤ now) (m1 : now ≤ 35184372088831) (l0 : 0 ≤ later) (l1 : later ≤ 4294967295) (i0 : o ≤ i) (i1 : c < i) (HG : Hid (∀ w1, Calls Try.prog 17 #[.int .i64 (t), .int .i64 (now), .int .i64 (w), .int .i64 (n)] w1 fun e w' => e = .returned (.bool false) ∧ w1 = w'))  (w0 : World) : Calls Try.prog 4 #[.int .i64 t, .int .i64 now, .int .i64 w, .int .i64 n, .int .i64 i, .int .i64 k, .int .u32 later] w0 fun e w' => e = .returned (.bool true) ∧ Qt w0 w' := by
  have a1 : decide (i ≤ c) = false := by simp; omega
  go_enter Try.func4, Try.ntmps4
  go_wp2_with (first | (go_at_call 14; (with_reducible refine (lives_any _).mono ?_); rintro e w1 ⟨rfl, m, rfl⟩) | (go_at_call 6; (with_reducible refine (HT.out _).mono ?_); rintro e w1 ⟨rfl, rfl⟩) | (go_at_call 10; (with_reducible refine (HO.out _).mono ?_); rintro e w1 ⟨rfl, rfl⟩) | (go_at_call 6; (with_reducible refine (HC.out _).mono ?_); rintro e w1 ⟨rfl, rfl⟩) | (go_at_call 17; (with_reducible refine (HG.out _).mono ?_); rintro e w1 ⟨rfl, rfl⟩))
  go_ret
  exact ⟨rfl, by repeat (first | exact Qt.refl _ | apply Qt.d)⟩
set_option maxHeartbeats 4000000 in
set_option maxRecDepth 100000 in
theorem own_n_c0 {t now w n i k later : Int} (HT : Hid (∀ w1, Calls Try.prog 6 #[.int .i64 (t), .int .i64 (w)] w1 fun e w' => e = .returned (.tuple #[.int .i64 0, .int .i64 1]) ∧ w1 = w')) {o c : Int} (HO : Hid (∀ w1, Calls Try.prog 10 #[.int .i64 (now), .int .i64 (w), .int .i64 (n)] w1 fun e w' => e = .returned (.tuple #[.int .i64 o, .int .i64 0]) ∧ w1 = w')) (HC : Hid (∀ w1, Calls Try.prog 6 #[.int .i64 (now), .int .i64 (w)] w1 fun e w' => e = .returned (.tuple #[.int .i64 c, .int .i64 0]) ∧ w1 = w')) (oc : o ≤ c) (m0 : 0 ≤ now) (m1 : now ≤ 35184372088831) (l0 : 0 ≤ later) (l1 : later ≤ 4294967295) (i0 : o ≤ i) (i1 : i ≤ c) (k0 : k < o) (HG : Hid (∀ w1, Calls Try.prog 17 #[.int .i64 (t), .int .i64 (now), .int .i64 (w), .int .i64 (n)] w1 fun e w' => e = .returned (.bool false) ∧ w1 = w'))  (w0 : World) : Calls Try.prog 4 #[.int .i64 t, .int .i64 now, .int .i64 w, .int .i64 n, .int .i64 i, .int .i64 k, .int .u32 later] w0 fun e w' => e = .returned (.bool true) ∧ Qt w0 w' := by
  have a1 : decide (o ≤ k) = false := by simp; omega
  go_enter Try.func4, Try.ntmps4
  go_wp2_with (first | (go_at_call 14; (with_reducible refine (lives_any _).mono ?_); rintro e w1 ⟨rfl, m, rfl⟩) | (go_at_call 6; (with_reducible refine (HT.out _).mono ?_); rintro e w1 ⟨rfl, rfl⟩) | (go_at_call 10; (with_reducible refine (HO.out _).mono ?_); rintro e w1 ⟨rfl, rfl⟩) | (go_at_call 6; (with_reducible refine (HC.out _).mono ?_); rintro e w1 ⟨rfl, rfl⟩) | (go_at_call 17; (with_reducible refine (HG.out _).mono ?_); rintro e w1 ⟨rfl, rfl⟩))
  go_ret
  exact ⟨rfl, by repeat (first | exact Qt.refl _ | apply Qt.d)⟩
set_option maxHeartbeats 4000000 in
set_option maxRecDepth 100000 in
theorem own_n_d0 {t now w n i k later : Int} (HT : Hid (∀ w1, Calls Try.prog 6 #[.int .i64 (t), .int .i64 (w)] w1 fun e w' => e = .returned (.tuple #[.int .i64 0, .int .i64 1]) ∧ w1 = w')) {o c : Int} (HO : Hid (∀ w1, Calls Try.prog 10 #[.int .i64 (now), .int .i64 (w), .int .i64 (n)] w1 fun e w' => e = .returned (.tuple #[.int .i64 o, .int .i64 0]) ∧ w1 = w')) (HC : Hid (∀ w1, Calls Try.prog 6 #[.int .i64 (now), .int .i64 (w)] w1 fun e w' => e = .returned (.tuple #[.int .i64 c, .int .i64 0]) ∧ w1 = w')) (oc : o ≤ c) (m0 : 0 ≤ now) (m1 : now ≤ 35184372088831) (l0 : 0 ≤ later) (l1 : later ≤ 4294967295) (i0 : o ≤ i) (i1 : i ≤ c) (k0 : o ≤ k) (k1 : c < k) (HG : Hid (∀ w1, Calls Try.prog 17 #[.int .i64 (t), .int .i64 (now), .int .i64 (w), .int .i64 (n)] w1 fun e w' => e = .returned (.bool false) ∧ w1 = w'))  (w0 : World) : Calls Try.prog 4 #[.int .i64 t, .int .i64 now, .int .i64 w, .int .i64 n, .int .i64 i, .int .i64 k, .int .u32 later] w0 fun e w' => e = .returned (.bool true) ∧ Qt w0 w' := by
  have a1 : decide (k ≤ c) = false := by simp; omega
  go_enter Try.func4, Try.ntmps4
  go_wp2_with (first | (go_at_call 14; (with_reducible refine (lives_any _).mono ?_); rintro e w1 ⟨rfl, m, rfl⟩) | (go_at_call 6; (with_reducible refine (HT.out _).mono ?_); rintro e w1 ⟨rfl, rfl⟩) | (go_at_call 10; (with_reducible refine (HO.out _).mono ?_); rintro e w1 ⟨rfl, rfl⟩) | (go_at_call 6; (with_reducible refine (HC.out _).mono ?_); rintro e w1 ⟨rfl, rfl⟩) | (go_at_call 17; (with_reducible refine (HG.out _).mono ?_); rintro e w1 ⟨rfl, rfl⟩))
  go_ret
  exact ⟨rfl, by repeat (first | exact Qt.refl _ | apply Qt.d)⟩
set_option maxHeartbeats 4000000 in
set_option maxRecDepth 100000 in
theorem own_n_f0 {t now w n i k later : Int} (HT : Hid (∀ w1, Calls Try.prog 6 #[.int .i64 (t), .int .i64 (w)] w1 fun e w' => e = .returned (.tuple #[.int .i64 0, .int .i64 1]) ∧ w1 = w')) {o c : Int} (HO : Hid (∀ w1, Calls Try.prog 10 #[.int .i64 (now), .int .i64 (w), .int .i64 (n)] w1 fun e w' => e = .returned (.tuple #[.int .i64 o, .int .i64 0]) ∧ w1 = w')) (HC : Hid (∀ w1, Calls Try.prog 6 #[.int .i64 (now), .int .i64 (w)] w1 fun e w' => e = .returned (.tuple #[.int .i64 c, .int .i64 0]) ∧ w1 = w')) (oc : o ≤ c) (m0 : 0 ≤ now) (m1 : now ≤ 35184372088831) (l0 : 0 ≤ later) (l1 : later ≤ 4294967295) (i0 : o ≤ i) (i1 : i ≤ c) (k0 : o ≤ k) (k1 : k ≤ c) {si sk : Int} (HSi : Hid (∀ w1, Calls Try.prog 15 #[.int .i64 (i), .int .i64 (n)] w1 fun e w' => e = .returned (.int .i64 si) ∧ w1 = w')) (HSk : Hid (∀ w1, Calls Try.prog 15 #[.int .i64 (k), .int .i64 (n)] w1 fun e w' => e = .returned (.int .i64 sk) ∧ w1 = w')) (d1 : (si == sk) = false) (d2 : (i == k) = false) (HG : Hid (∀ w1, Calls Try.prog 17 #[.int .i64 (t), .int .i64 (now), .int .i64 (w), .int .i64 (n)] w1 fun e w' => e = .returned (.bool false) ∧ w1 = w'))  (w0 : World) : Calls Try.prog 4 #[.int .i64 t, .int .i64 now, .int .i64 w, .int .i64 n, .int .i64 i, .int .i64 k, .int .u32 later] w0 fun e w' => e = .returned (.bool true) ∧ Qt w0 w' := by
  go_enter Try.func4, Try.ntmps4
  go_wp2_with (first | (go_at_call 14; (with_reducible refine (lives_any _).mono ?_); rintro e w1 ⟨rfl, m, rfl⟩) | (go_at_call 6; (with_reducible refine (HT.out _).mono ?_); rintro e w1 ⟨rfl, rfl⟩) | (go_at_call 10; (with_reducible refine (HO.out _).mono ?_); rintro e w1 ⟨rfl, rfl⟩) | (go_at_call 6; (with_reducible refine (HC.out _).mono ?_); rintro e w1 ⟨rfl, rfl⟩) | (go_at_call 15; (with_reducible refine (HSi.out _).mono ?_); rintro e w1 ⟨rfl, rfl⟩) | (go_at_call 15; (with_reducible refine (HSk.out _).mono ?_); rintro e w1 ⟨rfl, rfl⟩) | (go_at_call 17; (with_reducible refine (HG.out _).mono ?_); rintro e w1 ⟨rfl, rfl⟩))
  go_ret
  exact ⟨rfl, by repeat (first | exact Qt.refl _ | apply Qt.d)⟩
set_option maxHeartbeats 4000000 in
set_option maxRecDepth 100000 in
theorem own_n_e0 {t now w n i later : Int} (HT : Hid (∀ w1, Calls Try.prog 6 #[.int .i64 (t), .int .i64 (w)] w1 fun e w' => e = .returned (.tuple #[.int .i64 0, .int .i64 1]) ∧ w1 = w')) {o c : Int} (HO : Hid (∀ w1, Calls Try.prog 10 #[.int .i64 (now), .int .i64 (w), .int .i64 (n)] w1 fun e w' => e = .returned (.tuple #[.int .i64 o, .int .i64 0]) ∧ w1 = w')) (HC : Hid (∀ w1, Calls Try.prog 6 #[.int .i64 (now), .int .i64 (w)] w1 fun e w' => e = .returned (.tuple #[.int .i64 c, .int .i64 0]) ∧ w1 = w')) (oc : o ≤ c) (m0 : 0 ≤ now) (m1 : now ≤ 35184372088831) (l0 : 0 ≤ later) (l1 : later ≤ 4294967295) (i0 : o ≤ i) (i1 : i ≤ c) {si : Int} (HSi : Hid (∀ w1, Calls Try.prog 15 #[.int .i64 (i), .int .i64 (n)] w1 fun e w' => e = .returned (.int .i64 si) ∧ w1 = w')) (HG : Hid (∀ w1, Calls Try.prog 17 #[.int .i64 (t), .int .i64 (now), .int .i64 (w), .int .i64 (n)] w1 fun e w' => e = .returned (.bool false) ∧ w1 = w'))  (w0 : World) : Calls Try.prog 4 #[.int .i64 t, .int .i64 now, .int .i64 w, .int .i64 n, .int .i64 i, .int .i64 i, .int .u32 later] w0 fun e w' => e = .returned (.bool true) ∧ Qt w0 w' := by
  go_enter Try.func4, Try.ntmps4
  go_wp2_with (first | (go_at_call 14; (with_reducible refine (lives_any _).mono ?_); rintro e w1 ⟨rfl, m, rfl⟩) | (go_at_call 6; (with_reducible refine (HT.out _).mono ?_); rintro e w1 ⟨rfl, rfl⟩) | (go_at_call 10; (with_reducible refine (HO.out _).mono ?_); rintro e w1 ⟨rfl, rfl⟩) | (go_at_call 6; (with_reducible refine (HC.out _).mono ?_); rintro e w1 ⟨rfl, rfl⟩) | (go_at_call 15; (with_reducible refine (HSi.out _).mono ?_); rintro e w1 ⟨rfl, rfl⟩) | (go_at_call 17; (with_reducible refine (HG.out _).mono ?_); rintro e w1 ⟨rfl, rfl⟩))
  go_ret
  exact ⟨rfl, by repeat (first | exact Qt.refl _ | apply Qt.d)⟩
theorem own_y {t now w n i k later : Int} {x b : Int} (HT : Hid (∀ w1, Calls Try.prog 6 #[.int .i64 (t), .int .i64 (w)] w1 fun e w' => e = .returned (.tuple #[.int .i64 x, .int .i64 0]) ∧ w1 = w')) (HB : Hid (∀ w1, Calls Try.prog 8 #[.int .i64 (x), .int .i64 (w)] w1 fun e w' => e = .returned (.tuple #[.int .i64 b, .int .i64 0]) ∧ w1 = w')) (t0 : b ≤ t) (t1 : t - b < w) (t2 : 0 ≤ b) (t3 : t ≤ 35184372088831) {o c : Int} (HO : Hid (∀ w1, Calls Try.prog 10 #[.int .i64 (now), .int .i64 (w), .int .i64 (n)] w1 fun e w' => e = .returned (.tuple #[.int .i64 o, .int .i64 0]) ∧ w1 = w')) (HC : Hid (∀ w1, Calls Try.prog 6 #[.int .i64 (now), .int .i64 (w)] w1 fun e w' => e = .returned (.tuple #[.int .i64 c, .int .i64 0]) ∧ w1 = w')) (o0 : 0 ≤ o) (o1 : c - n + 1 ≤ o) (oc : o ≤ c) (m0 : 0 ≤ now) (m1 : now ≤ 35184372088831) (l0 : 0 ≤ later) (l1 : later ≤ 4294967295) (hn : SlotsOk n) (hg : goneB t now w n = true → now + later < 35184372088832 → goneB t (now + later) w n = true) (w0 : World) : Calls Try.prog 4 #[.int .i64 t, .int .i64 now, .int .i64 w, .int .i64 n, .int .i64 i, .int .i64 k, .int .u32 later] w0 fun e w' => e = .returned (.bool true) ∧ Qt w0 w' := by
  cases hG : goneB t now w n
  · have HG := Lib.hid (fun w1 => wgone_at t now w n false hG w1)
    rcases (by omega : i < o ∨ (o ≤ i ∧ c < i) ∨ (o ≤ i ∧ i ≤ c ∧ k < o) ∨ (o ≤ i ∧ i ≤ c ∧ o ≤ k ∧ c < k) ∨ (o ≤ i ∧ i ≤ c ∧ o ≤ k ∧ k ≤ c)) with i0 | ⟨i0, i1⟩ | ⟨i0, i1, k0⟩ | ⟨i0, i1, k0, k1⟩ | ⟨i0, i1, k0, k1⟩
    · exact own_y_a0 HT HB t0 t1 t2 t3 HO HC oc m0 m1 l0 l1 i0 HG w0
    · exact own_y_b0 HT HB t0 t1 t2 t3 HO HC oc m0 m1 l0 l1 i0 i1 HG w0
    · exact own_y_c0 HT HB t0 t1 t2 t3 HO HC oc m0 m1 l0 l1 i0 i1 k0 HG w0
    · exact own_y_d0 HT HB t0 t1 t2 t3 HO HC oc m0 m1 l0 l1 i0 i1 k0 k1 HG w0
    · by_cases hik : i = k
      · subst hik
        exact own_y_e0 HT HB t0 t1 t2 t3 HO HC oc m0 m1 l0 l1 i0 i1 (Lib.hid fun w1 => wslot_2 i n (by omega) hn.1 w1) HG w0
      · exact own_y_f0 HT HB t0 t1 t2 t3 HO HC oc m0 m1 l0 l1 i0 i1 k0 k1 (Lib.hid fun w1 => wslot_2 i n (by omega) hn.1 w1) (Lib.hid fun w1 => wslot_2 k n (by omega) hn.1 w1)
          (by rw [beq_eq_false_iff_ne]; exact fun h => hik (slot_own hn.1 o1 i0 i1 k0 k1 h)) (by rw [beq_eq_false_iff_ne]; exact hik) HG w0
  · have HG := Lib.hid (fun w1 => wgone_at t now w n true hG w1)
    by_cases g1 : now + later < 35184372088832
    · have HG2 := Lib.hid (fun w1 => wgone_at t (now + later) w n true (hg hG g1) w1)
      rcases (by omega : i < o ∨ (o ≤ i ∧ c < i) ∨ (o ≤ i ∧ i ≤ c ∧ k < o) ∨ (o ≤ i ∧ i ≤ c ∧ o ≤ k ∧ c < k) ∨ (o ≤ i ∧ i ≤ c ∧ o ≤ k ∧ k ≤ c)) with i0 | ⟨i0, i1⟩ | ⟨i0, i1, k0⟩ | ⟨i0, i1, k0, k1⟩ | ⟨i0, i1, k0, k1⟩
      · exact own_y_a2 HT HB t0 t1 t2 t3 HO HC oc m0 m1 l0 l1 i0 HG g1 HG2 w0
      · exact own_y_b2 HT HB t0 t1 t2 t3 HO HC oc m0 m1 l0 l1 i0 i1 HG g1 HG2 w0
      · exact own_y_c2 HT HB t0 t1 t2 t3 HO HC oc m0 m1 l0 l1 i0 i1 k0 HG g1 HG2 w0
      · exact own_y_d2 HT HB t0 t1 t2 t3 HO HC oc m0 m1 l0 l1 i0 i1 k0 k1 HG g1 HG2 w0
      · by_cases hik : i = k
        · subst hik
          exact own_y_e2 HT HB t0 t1 t2 t3 HO HC oc m0 m1 l0 l1 i0 i1 (Lib.hid fun w1 => wslot_2 i n (by omega) hn.1 w1) HG g1 HG2 w0
        · exact own_y_f2 HT HB t0 t1 t2 t3 HO HC oc m0 m1 l0 l1 i0 i1 k0 k1 (Lib.hid fun w1 => wslot_2 i n (by omega) hn.1 w1) (Lib.hid fun w1 => wslot_2 k n (by omega) hn.1 w1)
            (by rw [beq_eq_false_iff_ne]; exact fun h => hik (slot_own hn.1 o1 i0 i1 k0 k1 h)) (by rw [beq_eq_false_iff_ne]; exact hik) HG g1 HG2 w0
    · have g1' : 35184372088832 ≤ now + later := by omega
      rcases (by omega : i < o ∨ (o ≤ i ∧ c < i) ∨ (o ≤ i ∧ i ≤ c ∧ k < o) ∨ (o ≤ i ∧ i ≤ c ∧ o ≤ k ∧ c < k) ∨ (o ≤ i ∧ i ≤ c ∧ o ≤ k ∧ k ≤ c)) with i0 | ⟨i0, i1⟩ | ⟨i0, i1, k0⟩ | ⟨i0, i1, k0, k1⟩ | ⟨i0, i1, k0, k1⟩
      · exact own_y_a1 HT HB t0 t1 t2 t3 HO HC oc m0 m1 l0 l1 i0 HG g1' w0
      · exact own_y_b1 HT HB t0 t1 t2 t3 HO HC oc m0 m1 l0 l1 i0 i1 HG g1' w0
      · exact own_y_c1 HT HB t0 t1 t2 t3 HO HC oc m0 m1 l0 l1 i0 i1 k0 HG g1' w0
      · exact own_y_d1 HT HB t0 t1 t2 t3 HO HC oc m0 m1 l0 l1 i0 i1 k0 k1 HG g1' w0
      · by_cases hik : i = k
        · subst hik
          exact own_y_e1 HT HB t0 t1 t2 t3 HO HC oc m0 m1 l0 l1 i0 i1 (Lib.hid fun w1 => wslot_2 i n (by omega) hn.1 w1) HG g1' w0
        · exact own_y_f1 HT HB t0 t1 t2 t3 HO HC oc m0 m1 l0 l1 i0 i1 k0 k1 (Lib.hid fun w1 => wslot_2 i n (by omega) hn.1 w1) (Lib.hid fun w1 => wslot_2 k n (by omega) hn.1 w1)
            (by rw [beq_eq_false_iff_ne]; exact fun h => hik (slot_own hn.1 o1 i0 i1 k0 k1 h)) (by rw [beq_eq_false_iff_ne]; exact hik) HG g1' w0

theorem own_n {t now w n i k later : Int} (HT : Hid (∀ w1, Calls Try.prog 6 #[.int .i64 (t), .int .i64 (w)] w1 fun e w' => e = .returned (.tuple #[.int .i64 0, .int .i64 1]) ∧ w1 = w')) {o c : Int} (HO : Hid (∀ w1, Calls Try.prog 10 #[.int .i64 (now), .int .i64 (w), .int .i64 (n)] w1 fun e w' => e = .returned (.tuple #[.int .i64 o, .int .i64 0]) ∧ w1 = w')) (HC : Hid (∀ w1, Calls Try.prog 6 #[.int .i64 (now), .int .i64 (w)] w1 fun e w' => e = .returned (.tuple #[.int .i64 c, .int .i64 0]) ∧ w1 = w')) (o0 : 0 ≤ o) (o1 : c - n + 1 ≤ o) (oc : o ≤ c) (m0 : 0 ≤ now) (m1 : now ≤ 35184372088831) (l0 : 0 ≤ later) (l1 : later ≤ 4294967295) (hn : SlotsOk n) (hG : goneB t now w n = false) (w0 : World) : Calls Try.prog 4 #[.int .i64 t, .int .i64 now, .int .i64 w, .int .i64 n, .int .i64 i, .int .i64 k, .int .u32 later] w0 fun e w' => e = .returned (.bool true) ∧ Qt w0 w' := by
  have HG := Lib.hid (fun w1 => wgone_at t now w n false hG w1)
  rcases (by omega : i < o ∨ (o ≤ i ∧ c < i) ∨ (o ≤ i ∧ i ≤ c ∧ k < o) ∨ (o ≤ i ∧ i ≤ c ∧ o ≤ k ∧ c < k) ∨ (o ≤ i ∧ i ≤ c ∧ o ≤ k ∧ k ≤ c)) with i0 | ⟨i0, i1⟩ | ⟨i0, i1, k0⟩ | ⟨i0, i1, k0, k1⟩ | ⟨i0, i1, k0, k1⟩
  · exact own_n_a0 HT HO HC oc m0 m1 l0 l1 i0 HG w0
  · exact own_n_b0 HT HO HC oc m0 m1 l0 l1 i0 i1 HG w0
  · exact own_n_c0 HT HO HC oc m0 m1 l0 l1 i0 i1 k0 HG w0
  · exact own_n_d0 HT HO HC oc m0 m1 l0 l1 i0 i1 k0 k1 HG w0
  · by_cases hik : i = k
    · subst hik
      exact own_n_e0 HT HO HC oc m0 m1 l0 l1 i0 i1 (Lib.hid fun w1 => wslot_2 i n (by omega) hn.1 w1) HG w0
    · exact own_n_f0 HT HO HC oc m0 m1 l0 l1 i0 i1 k0 k1 (Lib.hid fun w1 => wslot_2 i n (by omega) hn.1 w1) (Lib.hid fun w1 => wslot_2 k n (by omega) hn.1 w1)
        (by rw [beq_eq_false_iff_ne]; exact fun h => hik (slot_own hn.1 o1 i0 i1 k0 k1 h)) (by rw [beq_eq_false_iff_ne]; exact hik) HG w0

theorem own_any (t now w n i k later : Int) (l0 : 0 ≤ later) (l1 : later ≤ 4294967295) (w0 : World) : Calls Try.prog 4 #[.int .i64 t, .int .i64 now, .int .i64 w, .int .i64 n, .int .i64 i, .int .i64 k, .int .u32 later] w0 fun e w' => e = .returned (.bool true) ∧ Below w0.heap.size w0 w' := by
  refine Calls.mono (R := fun e w' => e = .returned (.bool true) ∧ Qt w0 w') ?_ fun _ _ h => ⟨h.1, h.2.below⟩
  by_cases ho : OldOk now w n
  · obtain ⟨o0, oc, o1, c1⟩ := old_le ho
    have HO := Lib.hid (fun w1 => wold_at now w n _ 0 rfl (if_pos ho) w1)
    have HC := Lib.hid (fun w1 => wof_y now w ho.1 w1)
    obtain ⟨m0, m1⟩ := ho.1.1
    by_cases hT : TimeOk t ∧ WidthOk w
    · obtain ⟨t0, t1⟩ := beg_le (t := t) hT.2
      have hb := beg_at hT.1 hT.2
      have t2 : 0 ≤ t / w * w := Int.mul_nonneg (quo_bd hT).1 (by have := hT.2.1; omega)
      exact own_y (Lib.hid fun w1 => wof_y t w hT w1) (Lib.hid fun w1 => wbeg_at (t / w) w _ 0 (if_pos hb) (if_pos hb) w1) t0 t1 t2 hT.1.2 HO HC o0 o1 oc m0 m1 l0 l1 ho.2 (fun h h' => gone_on l0 ⟨by omega, by omega⟩ ho.1.1 ho.1.2 ho.2 h) w0
    · exact own_n (Lib.hid fun w1 => wof_n t w hT w1) HO HC o0 o1 oc m0 m1 l0 l1 ho.2 (gone_no hT) w0
  · have HO := Lib.hid (fun w1 => wold_at now w n 0 1 (if_neg ho) (if_neg ho) w1)
    have HC := Lib.hid (fun w1 => wof_any now w w1)
    by_cases hT : TimeOk t ∧ WidthOk w
    · obtain ⟨t0, t1⟩ := beg_le (t := t) hT.2
      have hb := beg_at hT.1 hT.2
      have t2 : 0 ≤ t / w * w := Int.mul_nonneg (quo_bd hT).1 (by have := hT.2.1; omega)
      exact own_y_bad (Lib.hid fun w1 => wof_y t w hT w1) (Lib.hid fun w1 => wbeg_at (t / w) w _ 0 (if_pos hb) (if_pos hb) w1) t0 t1 t2 hT.1.2 HO HC w0
    · exact own_n_bad (Lib.hid fun w1 => wof_n t w hT w1) HO HC w0
end Go.Proofs.Ytnaoeaahbfmhpaa
