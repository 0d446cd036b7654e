/-
  WALKS: plimsolllaw09.WindowWithin: it answers true.
-/
import Derived.Test.YtnaoeaahbfmhpaaO9
namespace Go.Proofs.Ytnaoeaahbfmhpaa
open Go Go.RowKit

theorem big_div {t w b : Int} (hw : 1 ≤ w) (hb : 1 ≤ b) : t / w / b = t / (w * b) := Int.ediv_ediv_of_nonneg (by omega)
set_option maxHeartbeats 4000000 in
set_option maxRecDepth 100000 in
theorem win_a {t w b : Int} (h : w < 1) (w0 : World) : Calls Try.prog 5 #[.int .i64 t, .int .i64 w, .int .u16 b] w0 fun e w' => e = .returned (.bool true) ∧ Qt w0 w' := by
  go_enter Try.func5, Try.ntmps5
  go_wp2_with (first | (go_at_call 14; (with_reducible refine (lives_any _).mono ?_); rintro e w1 ⟨rfl, m, rfl⟩))
  all_goals (go_ret; exact ⟨rfl, by repeat (first | exact Qt.refl _ | apply Qt.d)⟩)
set_option maxHeartbeats 4000000 in
set_option maxRecDepth 100000 in
theorem win_b {t w b : Int} (h : 1 ≤ w) (h2 : 16777216 < w) (w0 : World) : Calls Try.prog 5 #[.int .i64 t, .int .i64 w, .int .u16 b] w0 fun e w' => e = .returned (.bool true) ∧ Qt w0 w' := by
  go_enter Try.func5, Try.ntmps5
  go_wp2_with (first | (go_at_call 14; (with_reducible refine (lives_any _).mono ?_); rintro e w1 ⟨rfl, m, rfl⟩))
  all_goals (go_ret; exact ⟨rfl, by repeat (first | exact Qt.refl _ | apply Qt.d)⟩)
set_option maxHeartbeats 4000000 in
set_option maxRecDepth 100000 in
theorem win_c {t w : Int} (h : 1 ≤ w) (h2 : w ≤ 16777216) (w0 : World) : Calls Try.prog 5 #[.int .i64 t, .int .i64 w, .int .u16 0] w0 fun e w' => e = .returned (.bool true) ∧ Qt w0 w' := by
  go_enter Try.func5, Try.ntmps5
  go_wp2_with (first | (go_at_call 14; (with_reducible refine (lives_any _).mono ?_); rintro e w1 ⟨rfl, m, rfl⟩))
  all_goals (go_ret; exact ⟨rfl, by repeat (first | exact Qt.refl _ | apply Qt.d)⟩)
set_option maxHeartbeats 4000000 in
set_option maxRecDepth 100000 in
theorem win_d {t w b : Int} (h : 1 ≤ w) (h2 : w ≤ 16777216) (b0 : 1 ≤ b) (b1 : b ≤ 65535) {p : Int} (hp : IntKind.i64.wrap (w * b) = p) (HX : Hid (∀ w1, Calls Try.prog 6 #[.int .i64 (t), .int .i64 (w)] w1 fun e w' => e = .returned (.tuple #[.int .i64 0, .int .i64 1]) ∧ w1 = w')) (HY : Hid (∀ w1, Calls Try.prog 6 #[.int .i64 (t), .int .i64 (p)] w1 fun e w' => e = .returned (.tuple #[.int .i64 0, .int .i64 1]) ∧ w1 = w')) (w0 : World) : Calls Try.prog 5 #[.int .i64 t, .int .i64 w, .int .u16 b] w0 fun e w' => e = .returned (.bool true) ∧ Qt w0 w' := by
  have e0 : (b == 0) = false := by rw [beq_eq_false_iff_ne]; omega
  go_enter Try.func5, Try.ntmps5
  go_wp2_with (first | (go_at_call 14; (with_reducible refine (lives_any _).mono ?_); rintro e w1 ⟨rfl, m, rfl⟩) | (go_at_call 6; (with_reducible refine (HX.out _).mono ?_); rintro e w1 ⟨rfl, rfl⟩) | (go_at_call 6; (with_reducible refine (HY.out _).mono ?_); rintro e w1 ⟨rfl, rfl⟩))
  all_goals (go_ret; exact ⟨rfl, by repeat (first | exact Qt.refl _ | apply Qt.d)⟩)
set_option maxHeartbeats 4000000 in
set_option maxRecDepth 100000 in
theorem win_e {t w b : Int} (h : 1 ≤ w) (h2 : w ≤ 16777216) (b0 : 1 ≤ b) (b1 : b ≤ 65535) {p : Int} (hp : IntKind.i64.wrap (w * b) = p) {x y s : Int} (HX : Hid (∀ w1, Calls Try.prog 6 #[.int .i64 (t), .int .i64 (w)] w1 fun e w' => e = .returned (.tuple #[.int .i64 x, .int .i64 0]) ∧ w1 = w')) (HY : Hid (∀ w1, Calls Try.prog 6 #[.int .i64 (t), .int .i64 (p)] w1 fun e w' => e = .returned (.tuple #[.int .i64 y, .int .i64 0]) ∧ w1 = w')) (HS : Hid (∀ w1, Calls Try.prog 8 #[.int .i64 (y), .int .i64 (p)] w1 fun e w' => e = .returned (.tuple #[.int .i64 s, .int .i64 0]) ∧ w1 = w')) (x0 : 0 ≤ x) (x1 : x ≤ 35184372088831) (hq : IntKind.i64.wrap (x / b) = x / b) (he : (x / b == y) = true) (s0 : 0 ≤ s) (s1 : s ≤ 35184372088831) (p0 : 1 ≤ p) (p1 : p ≤ 1099511627776) (hs : 35184372088832 < s + p) (w0 : World) : Calls Try.prog 5 #[.int .i64 t, .int .i64 w, .int .u16 b] w0 fun e w' => e = .returned (.bool true) ∧ Qt w0 w' := by
  have e0 : (b == 0) = false := by rw [beq_eq_false_iff_ne]; omega
  go_enter Try.func5, Try.ntmps5
  go_wp2_with (first | (go_at_call 14; (with_reducible refine (lives_any _).mono ?_); rintro e w1 ⟨rfl, m, rfl⟩) | (go_at_call 6; (with_reducible refine (HX.out _).mono ?_); rintro e w1 ⟨rfl, rfl⟩) | (go_at_call 6; (with_reducible refine (HY.out _).mono ?_); rintro e w1 ⟨rfl, rfl⟩) | (go_at_call 8; (with_reducible refine (HS.out _).mono ?_); rintro e w1 ⟨rfl, rfl⟩))
  all_goals (go_ret; exact ⟨rfl, by repeat (first | exact Qt.refl _ | apply Qt.d)⟩)
set_option maxHeartbeats 4000000 in
set_option maxRecDepth 100000 in
theorem win_f {t w b : Int} (h : 1 ≤ w) (h2 : w ≤ 16777216) (b0 : 1 ≤ b) (b1 : b ≤ 65535) {p : Int} (hp : IntKind.i64.wrap (w * b) = p) {x y s : Int} (HX : Hid (∀ w1, Calls Try.prog 6 #[.int .i64 (t), .int .i64 (w)] w1 fun e w' => e = .returned (.tuple #[.int .i64 x, .int .i64 0]) ∧ w1 = w')) (HY : Hid (∀ w1, Calls Try.prog 6 #[.int .i64 (t), .int .i64 (p)] w1 fun e w' => e = .returned (.tuple #[.int .i64 y, .int .i64 0]) ∧ w1 = w')) (HS : Hid (∀ w1, Calls Try.prog 8 #[.int .i64 (y), .int .i64 (p)] w1 fun e w' => e = .returned (.tuple #[.int .i64 s, .int .i64 0]) ∧ w1 = w')) (x0 : 0 ≤ x) (x1 : x ≤ 35184372088831) (hq : IntKind.i64.wrap (x / b) = x / b) (he : (x / b == y) = true) (s0 : 0 ≤ s) (s1 : s ≤ 35184372088831) (p0 : 1 ≤ p) (p1 : p ≤ 1099511627776) (hs : s + p ≤ 35184372088832) {c d : Int} (HP : Hid (∀ w1, Calls Try.prog 12 #[.int .i64 s, .int .i64 (s + p), .int .i64 w] w1 fun e w' => e = .returned (.tuple #[.int .i64 c, .int .i64 d, .int .i64 0]) ∧ Qt w1 w')) (c0 : 0 ≤ c) (c1 : c ≤ x) (d1 : x < d) (d2 : d ≤ 35184372088832) (hd : (d - c == b) = true) (w0 : World) : Calls Try.prog 5 #[.int .i64 t, .int .i64 w, .int .u16 b] w0 fun e w' => e = .returned (.bool true) ∧ Qt w0 w' := by
  have e0 : (b == 0) = false := by rw [beq_eq_false_iff_ne]; omega
  go_enter Try.func5, Try.ntmps5
  go_wp2_with (first | (go_at_call 14; (with_reducible refine (lives_any _).mono ?_); rintro e w1 ⟨rfl, m, rfl⟩) | (go_at_call 6; (with_reducible refine (HX.out _).mono ?_); rintro e w1 ⟨rfl, rfl⟩) | (go_at_call 6; (with_reducible refine (HY.out _).mono ?_); rintro e w1 ⟨rfl, rfl⟩) | (go_at_call 8; (with_reducible refine (HS.out _).mono ?_); rintro e w1 ⟨rfl, rfl⟩) | (go_at_call 12; (with_reducible refine (HP.out _).mono ?_); rintro e w1 ⟨rfl, m, rfl⟩))
  all_goals (go_ret; exact ⟨rfl, by repeat (first | exact Qt.refl _ | apply Qt.d)⟩)
theorem win_good {t w b : Int} (h : 1 ≤ w) (h2 : w ≤ 16777216) (b0 : 1 ≤ b) (b1 : b ≤ 65535) (w0 : World) : Calls Try.prog 5 #[.int .i64 t, .int .i64 w, .int .u16 b] w0 fun e w' => e = .returned (.bool true) ∧ Qt w0 w' := by
  have p0 : 1 ≤ w * b := by have := Int.mul_le_mul h b0 (by omega) (by omega); omega
  have p1 : w * b ≤ 1099511627776 := by
    have := Int.mul_le_mul h2 b1 (by omega) (by omega)
    omega
  have hp : IntKind.i64.wrap (w * b) = w * b := by rw [IntKind.wrap_i64]; omega
  have hw : WidthOk w := ⟨h, by omega⟩
  have hw2 : WidthOk (w * b) := ⟨p0, p1⟩
  by_cases hT : TimeOk t
  · obtain ⟨x0, x1⟩ := quo_bd ⟨hT, hw⟩
    obtain ⟨y0, y1⟩ := quo_bd ⟨hT, hw2⟩
    have hb := beg_at hT hw2
    obtain ⟨s1, s2⟩ := beg_le (t := t) hw2
    have s0 : 0 ≤ t / (w * b) * (w * b) := Int.mul_nonneg y0 (by omega)
    have hd := big_div (t := t) h b0
    have q0 : 0 ≤ t / w / b := Int.ediv_nonneg x0 (by omega)
    have q1 : t / w / b ≤ t / w := Int.ediv_le_self _ x0
    have HX := Lib.hid (fun w1 => wof_y t w ⟨hT, hw⟩ w1)
    have HY := Lib.hid (fun w1 => wof_y t (w * b) ⟨hT, hw2⟩ w1)
    have HS := Lib.hid (fun w1 => wbeg_at (t / (w * b)) (w * b) _ 0 (if_pos hb) (if_pos hb) w1)
    have hq : IntKind.i64.wrap (t / w / b) = t / w / b := by rw [IntKind.wrap_i64]; have := hT.2; omega
    have st := hT.2
    by_cases hs : t / (w * b) * (w * b) + w * b ≤ 35184372088832
    · have e1 : t / (w * b) * (w * b) = t / (w * b) * b * w := by rw [Int.mul_comm w b, ← Int.mul_assoc]
      have e2 : t / (w * b) * (w * b) + w * b = (t / (w * b) * b + b) * w := by rw [Int.add_mul, ← e1, Int.mul_comm b w]
      have hso : SpanOk (t / (w * b) * (w * b)) (t / (w * b) * (w * b) + w * b) w := ⟨hw, s0, by omega, hs⟩
      have hal : t / (w * b) * (w * b) % w = 0 ∧ (t / (w * b) * (w * b) + w * b) % w = 0 := ⟨by rw [e1]; exact Int.mul_emod_left _ _, by rw [e2]; exact Int.mul_emod_left _ _⟩
      obtain ⟨a1, a2, a3⟩ := sp_ok hso hal
      have f1 : t / (w * b) * (w * b) / w = t / (w * b) * b := by rw [e1]; exact Int.mul_ediv_cancel _ (by omega)
      have f2 : (t / (w * b) * (w * b) + w * b) / w = t / (w * b) * b + b := by rw [e2]; exact Int.mul_ediv_cancel _ (by omega)
      have m1 := Int.mul_ediv_add_emod (t / w) b
      have m2 := Int.emod_nonneg (t / w) (show b ≠ 0 by omega)
      have m3 := Int.emod_lt_of_pos (t / w) (show 0 < b by omega)
      rw [hd, Int.mul_comm] at m1
      have HP := Lib.hid (fun w1 => wspan_at (t / (w * b) * (w * b)) (t / (w * b) * (w * b) + w * b) w (t / (w * b) * b) (t / (w * b) * b + b) 0 (a1.trans f1) (a2.trans f2) a3 w1)
      have g0 : 0 ≤ t / (w * b) * b := Int.mul_nonneg y0 (by omega)
      refine win_f h h2 b0 b1 hp HX HY HS x0 x1 hq (by rw [hd]; exact beq_self_eq_true _) s0 (by omega) p0 p1 hs HP g0 (by omega) (by omega) ?_ (by rw [beq_iff_eq]; omega) w0
      rw [← f2]
      exact Int.le_trans (Int.ediv_le_self _ (by omega)) hs
    · exact win_e h h2 b0 b1 hp HX HY HS x0 x1 hq (by rw [hd]; exact beq_self_eq_true _) s0 (by omega) p0 p1 (by omega) w0
  · exact win_d h h2 b0 b1 hp (Lib.hid fun w1 => wof_n t w (fun h => hT h.1) w1) (Lib.hid fun w1 => wof_n t (w * b) (fun h => hT h.1) w1) w0
theorem win_any (t w b : Int) (b0 : 0 ≤ b) (b1 : b ≤ 65535) (w0 : World) : Calls Try.prog 5 #[.int .i64 t, .int .i64 w, .int .u16 b] w0 fun e w' => e = .returned (.bool true) ∧ Below w0.heap.size w0 w' := by
  refine Calls.mono (R := fun e w' => e = .returned (.bool true) ∧ Qt w0 w') ?_ fun _ _ h => ⟨h.1, h.2.below⟩
  by_cases h : 1 ≤ w
  · by_cases h2 : w ≤ 16777216
    · by_cases h3 : b = 0
      · subst h3; exact win_c h h2 w0
      · exact win_good h h2 (by omega) b1 w0
    · exact win_b h (by omega) w0
  · exact win_a (by omega) w0
end Go.Proofs.Ytnaoeaahbfmhpaa
