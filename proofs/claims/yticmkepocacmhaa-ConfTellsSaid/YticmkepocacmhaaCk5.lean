/-
  WALKS: package conf: areRightTiers, Check.
-/
import Derived.Test.YticmkepocacmhaaCf
import Derived.BigQuiet
import Derived.Deep.QuietTactic
namespace Go.Proofs.Yticmkepocacmhaa
open Go Go.RowKit

theorem bcell9 {W w1 : World} (hb : Below W.heap.size W w1) : (∀ b o, b < W.heap.size → w1.cell? ⟨b, o, none⟩ = W.cell? ⟨b, o, none⟩) ∧ (∀ b o, b < W.heap.size → w1.frozen? ⟨b, o, none⟩ = W.frozen? ⟨b, o, none⟩) :=
  ⟨fun b o h => hb.cell (p := ⟨b, o, none⟩) h, fun b o h => hb.frozen (p := ⟨b, o, none⟩) h⟩
theorem blw_box {w w3 : World} {o : Obj} (h : Below (w.alloc o).heap.size (w.alloc o) w3) : Below w.heap.size w w3 := ((Below.refl _ _).alloc (Nat.le_refl _) o).trans (h.mono (by simp))
theorem ci_yes (n a b : Int) (h1 : a ≤ n) (h2 : n ≤ b) (w0 : World) : Calls Try.prog 53 #[.int .i64 n, .int .i64 a, .int .i64 b] w0 fun e w' => e = .returned (.bool true) ∧ w0 = w' := by
  go_enter Try.func53, Try.ntmps53
  go_wp2
  go_ret
  exact ⟨rfl, rfl⟩
theorem ci_no (n a b : Int) (h : ¬ (a ≤ n ∧ n ≤ b)) (w0 : World) : Calls Try.prog 53 #[.int .i64 n, .int .i64 a, .int .i64 b] w0 fun e w' => e = .returned (.bool false) ∧ w0 = w' := by
  by_cases h1 : a ≤ n
  · have h2 : ¬ n ≤ b := fun h2 => h ⟨h1, h2⟩
    clear h
    go_enter Try.func53, Try.ntmps53
    go_wp2
    go_ret
    exact ⟨rfl, rfl⟩
  · clear h
    go_enter Try.func53, Try.ntmps53
    go_wp2
    go_ret
    exact ⟨rfl, rfl⟩
theorem cn_yes (n a b : Int) (h1 : a ≤ n) (h2 : n ≤ b) (w0 : World) : Calls Try.prog 36 #[.int .i64 n, .int .i64 a, .int .i64 b] w0 fun e w' => e = .returned (.bool true) ∧ w0 = w' := by
  go_enter Try.func36, Try.ntmps36
  go_wp2
  go_ret
  exact ⟨rfl, rfl⟩
theorem cn_no (n a b : Int) (h : ¬ (a ≤ n ∧ n ≤ b)) (w0 : World) : Calls Try.prog 36 #[.int .i64 n, .int .i64 a, .int .i64 b] w0 fun e w' => e = .returned (.bool false) ∧ w0 = w' := by
  by_cases h1 : a ≤ n
  · have h2 : ¬ n ≤ b := fun h2 => h ⟨h1, h2⟩
    clear h
    go_enter Try.func36, Try.ntmps36
    go_wp2
    go_ret
    exact ⟨rfl, rfl⟩
  · clear h
    go_enter Try.func36, Try.ntmps36
    go_wp2
    go_ret
    exact ⟨rfl, rfl⟩
set_option maxHeartbeats 4000000 in
set_option maxRecDepth 100000 in
theorem ti_w0 {raw w0 w1 w2 n0 n1 n2 cap log : Int} (h : ¬ WidthOk w0) (w : World) : Calls Try.prog 35 #[.agg #[.int .i64 raw, .int .i64 w0, .int .i64 w1, .int .i64 w2, .int .i64 n0, .int .i64 n1, .int .i64 n2, .int .i64 cap, .int .i64 log]] w fun e w' => e = .returned (.bool false) ∧ Below w.heap.size w w' := by
  have HA := Lib.hid (show ¬ (1 ≤ w0 ∧ w0 ≤ 1099511627776) from h)
  clear h
  go_enter Try.func35, Try.ntmps35
  go_wp2
  refine wp_loop_rounds 4 ?_
  (rw [rounds_succ]; go_wp2_with (first | ((with_reducible refine at_slot 12 ?_); refine wl_index rfl rfl rfl rfl (ixw0 _ _ _ _) ?_) | (go_at_call 53; (with_reducible refine (ci_no _ _ _ HA.out _).mono ?_); rintro e w1 ⟨rfl, rfl⟩)))
  go_ret
  exact ⟨rfl, by go_grown⟩
set_option maxHeartbeats 4000000 in
set_option maxRecDepth 100000 in
theorem ti_n0 {raw w0 w1 w2 n0 n1 n2 cap log : Int} (hw0 : WidthOk w0) (h : ¬ SlotsOk n0) (w : World) : Calls Try.prog 35 #[.agg #[.int .i64 raw, .int .i64 w0, .int .i64 w1, .int .i64 w2, .int .i64 n0, .int .i64 n1, .int .i64 n2, .int .i64 cap, .int .i64 log]] w fun e w' => e = .returned (.bool false) ∧ Below w.heap.size w w' := by
  have HA := Lib.hid (show ¬ (1 ≤ n0 ∧ n0 ≤ 4096) from h)
  clear h
  obtain ⟨a0, A0⟩ := hw0
  go_enter Try.func35, Try.ntmps35
  go_wp2
  refine wp_loop_rounds 4 ?_
  (rw [rounds_succ]; go_wp2_with (first | ((with_reducible refine at_slot 12 ?_); refine wl_index rfl rfl rfl rfl (ixw0 _ _ _ _) ?_) | (go_at_call 53; (with_reducible refine (ci_yes _ _ _ a0 A0 _).mono ?_); rintro e w1 ⟨rfl, rfl⟩) | (go_at_call 36; (with_reducible refine (cn_no _ _ _ HA.out _).mono ?_); rintro e w1 ⟨rfl, rfl⟩)))
  go_ret
  exact ⟨rfl, by go_grown⟩
set_option maxHeartbeats 4000000 in
set_option maxRecDepth 100000 in
theorem ti_w1 {raw w0 w1 w2 n0 n1 n2 cap log : Int} (hw0 : WidthOk w0) (hn0 : SlotsOk n0) (h : ¬ WidthOk w1) (w : World) : Calls Try.prog 35 #[.agg #[.int .i64 raw, .int .i64 w0, .int .i64 w1, .int .i64 w2, .int .i64 n0, .int .i64 n1, .int .i64 n2, .int .i64 cap, .int .i64 log]] w fun e w' => e = .returned (.bool false) ∧ Below w.heap.size w w' := by
  obtain ⟨a0, A0⟩ := hw0
  obtain ⟨b0, B0⟩ := hn0
  have HA := Lib.hid (show ¬ (1 ≤ w1 ∧ w1 ≤ 1099511627776) from h)
  clear h
  go_enter Try.func35, Try.ntmps35
  go_wp2
  refine wp_loop_rounds 4 ?_
  (rw [rounds_succ]; go_wp2_with (first | ((with_reducible refine at_slot 12 ?_); refine wl_index rfl rfl rfl rfl (ixw0 _ _ _ _) ?_) | (go_at_call 53; (with_reducible refine (ci_yes _ _ _ a0 A0 _).mono ?_); rintro e w1 ⟨rfl, rfl⟩) | (go_at_call 36; (with_reducible refine (cn_yes _ _ _ b0 B0 _).mono ?_); rintro e w1 ⟨rfl, rfl⟩)))
  (rw [rounds_succ]; go_wp2_with (first | ((with_reducible refine at_slot 12 ?_); refine wl_index rfl rfl rfl rfl (ixw1 _ _ _ _) ?_) | (go_at_call 53; (with_reducible refine (ci_no _ _ _ HA.out _).mono ?_); rintro e w1 ⟨rfl, rfl⟩)))
  go_ret
  exact ⟨rfl, by go_grown⟩
set_option maxHeartbeats 4000000 in
set_option maxRecDepth 100000 in
theorem ti_n1 {raw w0 w1 w2 n0 n1 n2 cap log : Int} (hw0 : WidthOk w0) (hn0 : SlotsOk n0) (hw1 : WidthOk w1) (h : ¬ SlotsOk n1) (w : World) : Calls Try.prog 35 #[.agg #[.int .i64 raw, .int .i64 w0, .int .i64 w1, .int .i64 w2, .int .i64 n0, .int .i64 n1, .int .i64 n2, .int .i64 cap, .int .i64 log]] w fun e w' => e = .returned (.bool false) ∧ Below w.heap.size w w' := by
  obtain ⟨a0, A0⟩ := hw0
  obtain ⟨b0, B0⟩ := hn0
  have HA := Lib.hid (show ¬ (1 ≤ n1 ∧ n1 ≤ 4096) from h)
  clear h
  obtain ⟨a1, A1⟩ := hw1
  go_enter Try.func35, Try.ntmps35
  go_wp2
  refine wp_loop_rounds 4 ?_
  (rw [rounds_succ]; go_wp2_with (first | ((with_reducible refine at_slot 12 ?_); refine wl_index rfl rfl rfl rfl (ixw0 _ _ _ _) ?_) | (go_at_call 53; (with_reducible refine (ci_yes _ _ _ a0 A0 _).mono ?_); rintro e w1 ⟨rfl, rfl⟩) | (go_at_call 36; (with_reducible refine (cn_yes _ _ _ b0 B0 _).mono ?_); rintro e w1 ⟨rfl, rfl⟩)))
  (rw [rounds_succ]; go_wp2_with (first | ((with_reducible refine at_slot 12 ?_); refine wl_index rfl rfl rfl rfl (ixw1 _ _ _ _) ?_) | (go_at_call 53; (with_reducible refine (ci_yes _ _ _ a1 A1 _).mono ?_); rintro e w1 ⟨rfl, rfl⟩) | (go_at_call 36; (with_reducible refine (cn_no _ _ _ HA.out _).mono ?_); rintro e w1 ⟨rfl, rfl⟩)))
  go_ret
  exact ⟨rfl, by go_grown⟩
set_option maxHeartbeats 4000000 in
set_option maxRecDepth 100000 in
theorem ti_w2 {raw w0 w1 w2 n0 n1 n2 cap log : Int} (hw0 : WidthOk w0) (hn0 : SlotsOk n0) (hw1 : WidthOk w1) (hn1 : SlotsOk n1) (h : ¬ WidthOk w2) (w : World) : Calls Try.prog 35 #[.agg #[.int .i64 raw, .int .i64 w0, .int .i64 w1, .int .i64 w2, .int .i64 n0, .int .i64 n1, .int .i64 n2, .int .i64 cap, .int .i64 log]] w fun e w' => e = .returned (.bool false) ∧ Below w.heap.size w w' := by
  obtain ⟨a0, A0⟩ := hw0
  obtain ⟨b0, B0⟩ := hn0
  obtain ⟨a1, A1⟩ := hw1
  obtain ⟨b1, B1⟩ := hn1
  have HA := Lib.hid (show ¬ (1 ≤ w2 ∧ w2 ≤ 1099511627776) from h)
  clear h
  go_enter Try.func35, Try.ntmps35
  go_wp2
  refine wp_loop_rounds 4 ?_
  (rw [rounds_succ]; go_wp2_with (first | ((with_reducible refine at_slot 12 ?_); refine wl_index rfl rfl rfl rfl (ixw0 _ _ _ _) ?_) | (go_at_call 53; (with_reducible refine (ci_yes _ _ _ a0 A0 _).mono ?_); rintro e w1 ⟨rfl, rfl⟩) | (go_at_call 36; (with_reducible refine (cn_yes _ _ _ b0 B0 _).mono ?_); rintro e w1 ⟨rfl, rfl⟩)))
  (rw [rounds_succ]; go_wp2_with (first | ((with_reducible refine at_slot 12 ?_); refine wl_index rfl rfl rfl rfl (ixw1 _ _ _ _) ?_) | (go_at_call 53; (with_reducible refine (ci_yes _ _ _ a1 A1 _).mono ?_); rintro e w1 ⟨rfl, rfl⟩) | (go_at_call 36; (with_reducible refine (cn_yes _ _ _ b1 B1 _).mono ?_); rintro e w1 ⟨rfl, rfl⟩)))
  (rw [rounds_succ]; go_wp2_with (first | ((with_reducible refine at_slot 12 ?_); refine wl_index rfl rfl rfl rfl (ixw2 _ _ _ _) ?_) | (go_at_call 53; (with_reducible refine (ci_no _ _ _ HA.out _).mono ?_); rintro e w1 ⟨rfl, rfl⟩)))
  go_ret
  exact ⟨rfl, by go_grown⟩
set_option maxHeartbeats 4000000 in
set_option maxRecDepth 100000 in
theorem ti_n2 {raw w0 w1 w2 n0 n1 n2 cap log : Int} (hw0 : WidthOk w0) (hn0 : SlotsOk n0) (hw1 : WidthOk w1) (hn1 : SlotsOk n1) (hw2 : WidthOk w2) (h : ¬ SlotsOk n2) (w : World) : Calls Try.prog 35 #[.agg #[.int .i64 raw, .int .i64 w0, .int .i64 w1, .int .i64 w2, .int .i64 n0, .int .i64 n1, .int .i64 n2, .int .i64 cap, .int .i64 log]] w fun e w' => e = .returned (.bool false) ∧ Below w.heap.size w w' := by
  obtain ⟨a0, A0⟩ := hw0
  obtain ⟨b0, B0⟩ := hn0
  obtain ⟨a1, A1⟩ := hw1
  obtain ⟨b1, B1⟩ := hn1
  have HA := Lib.hid (show ¬ (1 ≤ n2 ∧ n2 ≤ 4096) from h)
  clear h
  obtain ⟨a2, A2⟩ := hw2
  go_enter Try.func35, Try.ntmps35
  go_wp2
  refine wp_loop_rounds 4 ?_
  (rw [rounds_succ]; go_wp2_with (first | ((with_reducible refine at_slot 12 ?_); refine wl_index rfl rfl rfl rfl (ixw0 _ _ _ _) ?_) | (go_at_call 53; (with_reducible refine (ci_yes _ _ _ a0 A0 _).mono ?_); rintro e w1 ⟨rfl, rfl⟩) | (go_at_call 36; (with_reducible refine (cn_yes _ _ _ b0 B0 _).mono ?_); rintro e w1 ⟨rfl, rfl⟩)))
  (rw [rounds_succ]; go_wp2_with (first | ((with_reducible refine at_slot 12 ?_); refine wl_index rfl rfl rfl rfl (ixw1 _ _ _ _) ?_) | (go_at_call 53; (with_reducible refine (ci_yes _ _ _ a1 A1 _).mono ?_); rintro e w1 ⟨rfl, rfl⟩) | (go_at_call 36; (with_reducible refine (cn_yes _ _ _ b1 B1 _).mono ?_); rintro e w1 ⟨rfl, rfl⟩)))
  (rw [rounds_succ]; go_wp2_with (first | ((with_reducible refine at_slot 12 ?_); refine wl_index rfl rfl rfl rfl (ixw2 _ _ _ _) ?_) | (go_at_call 53; (with_reducible refine (ci_yes _ _ _ a2 A2 _).mono ?_); rintro e w1 ⟨rfl, rfl⟩) | (go_at_call 36; (with_reducible refine (cn_no _ _ _ HA.out _).mono ?_); rintro e w1 ⟨rfl, rfl⟩)))
  go_ret
  exact ⟨rfl, by go_grown⟩
set_option maxHeartbeats 4000000 in
set_option maxRecDepth 100000 in
theorem ti_a {raw w0 w1 w2 n0 n1 n2 cap log : Int} (hw0 : WidthOk w0) (hn0 : SlotsOk n0) (hw1 : WidthOk w1) (hn1 : SlotsOk n1) (hw2 : WidthOk w2) (hn2 : SlotsOk n2) (h1 : 0 < w1 % w0)  (w : World) : Calls Try.prog 35 #[.agg #[.int .i64 raw, .int .i64 w0, .int .i64 w1, .int .i64 w2, .int .i64 n0, .int .i64 n1, .int .i64 n2, .int .i64 cap, .int .i64 log]] w fun e w' => e = .returned (.bool false) ∧ Below w.heap.size w w' := by
  have HF := Lib.hid (fun w3 => factors_raw w0 w1 w2 hw0 hw1 hw2 w3)
  obtain ⟨a0, A0⟩ := hw0
  obtain ⟨b0, B0⟩ := hn0
  obtain ⟨a1, A1⟩ := hw1
  obtain ⟨b1, B1⟩ := hn1
  obtain ⟨a2, A2⟩ := hw2
  obtain ⟨b2, B2⟩ := hn2
  have q0 : 0 ≤ w1 / w0 := Int.ediv_nonneg (by omega) (by omega)
  have q1 : w1 / w0 ≤ w1 := Int.ediv_le_self _ (by omega)
  have q2 : 0 ≤ w2 / w1 := Int.ediv_nonneg (by omega) (by omega)
  have q3 : w2 / w1 ≤ w2 := Int.ediv_le_self _ (by omega)
  have r0 : 0 ≤ w1 % w0 := Int.emod_nonneg _ (by omega)
  have y0 : ¬ w0 = 0 := by omega
  have y1 : ¬ w1 = 0 := by omega
  have x1 : 0 ≤ w1 := by omega
  have x2 : 0 ≤ w2 := by omega
  have t0 : Int.tmod w1 w0 = w1 % w0 := Int.tmod_eq_emod_of_nonneg x1
  have t1 : Int.tmod w2 w1 = w2 % w1 := Int.tmod_eq_emod_of_nonneg x2
  have z0 : IntKind.i64.wrap 0 = 0 := by decide
  have z1 : IntKind.i64.wrap 1 = 1 := by decide
  have r1 : 0 ≤ w2 % w1 := Int.emod_nonneg _ (by omega)
  have g1 : (w1 % w0 != 0) = true := by rw [bne_iff_ne]; omega
  go_enter Try.func35, Try.ntmps35
  go_wp2
  refine wp_loop_rounds 4 ?_
  (rw [rounds_succ]; go_wp2_with (first | ((with_reducible refine at_slot 12 ?_); refine wl_index rfl rfl rfl rfl (ixw0 _ _ _ _) ?_) | (go_at_call 53; (with_reducible refine (ci_yes _ _ _ a0 A0 _).mono ?_); rintro e w1 ⟨rfl, rfl⟩) | (go_at_call 36; (with_reducible refine (cn_yes _ _ _ b0 B0 _).mono ?_); rintro e w1 ⟨rfl, rfl⟩)))
  (rw [rounds_succ]; go_wp2_with (first | ((with_reducible refine at_slot 12 ?_); refine wl_index rfl rfl rfl rfl (ixw1 _ _ _ _) ?_) | (go_at_call 53; (with_reducible refine (ci_yes _ _ _ a1 A1 _).mono ?_); rintro e w1 ⟨rfl, rfl⟩) | (go_at_call 36; (with_reducible refine (cn_yes _ _ _ b1 B1 _).mono ?_); rintro e w1 ⟨rfl, rfl⟩)))
  (rw [rounds_succ]; go_wp2_with (first | ((with_reducible refine at_slot 12 ?_); refine wl_index rfl rfl rfl rfl (ixw2 _ _ _ _) ?_) | (go_at_call 53; (with_reducible refine (ci_yes _ _ _ a2 A2 _).mono ?_); rintro e w1 ⟨rfl, rfl⟩) | (go_at_call 36; (with_reducible refine (cn_yes _ _ _ b2 B2 _).mono ?_); rintro e w1 ⟨rfl, rfl⟩)))
  (rw [rounds_succ]; go_wp2_with (go_at_call 39; (with_reducible refine (HF.out _).mono ?_); rintro e w3 ⟨rfl, hb⟩; obtain ⟨hc, hf⟩ := bcell9 hb; have hz : w.heap.size < w3.heap.size := by { have := hb.size; simp at this; omega }; have HB := Lib.hid hb; clear hb))
  refine wp_loop_rounds 3 ?_
  (rw [rounds_succ]; go_wp2_with fail)
  go_quiet (fail)
  go_wp2_with fail
  go_ret
  have HB3 := blw_box HB.out
  exact ⟨rfl, by repeat (first | exact HB3 | apply bdn9 | exact HB3.alloc HB3.size _)⟩
set_option maxHeartbeats 4000000 in
set_option maxRecDepth 100000 in
theorem ti_b {raw w0 w1 w2 n0 n1 n2 cap log : Int} (hw0 : WidthOk w0) (hn0 : SlotsOk n0) (hw1 : WidthOk w1) (hn1 : SlotsOk n1) (hw2 : WidthOk w2) (hn2 : SlotsOk n2) (h1 : w1 % w0 = 0) (h2 : n0 < w1 / w0)  (w : World) : Calls Try.prog 35 #[.agg #[.int .i64 raw, .int .i64 w0, .int .i64 w1, .int .i64 w2, .int .i64 n0, .int .i64 n1, .int .i64 n2, .int .i64 cap, .int .i64 log]] w fun e w' => e = .returned (.bool false) ∧ Below w.heap.size w w' := by
  have HF := Lib.hid (fun w3 => factors_raw w0 w1 w2 hw0 hw1 hw2 w3)
  obtain ⟨a0, A0⟩ := hw0
  obtain ⟨b0, B0⟩ := hn0
  obtain ⟨a1, A1⟩ := hw1
  obtain ⟨b1, B1⟩ := hn1
  obtain ⟨a2, A2⟩ := hw2
  obtain ⟨b2, B2⟩ := hn2
  have q0 : 0 ≤ w1 / w0 := Int.ediv_nonneg (by omega) (by omega)
  have q1 : w1 / w0 ≤ w1 := Int.ediv_le_self _ (by omega)
  have q2 : 0 ≤ w2 / w1 := Int.ediv_nonneg (by omega) (by omega)
  have q3 : w2 / w1 ≤ w2 := Int.ediv_le_self _ (by omega)
  have r0 : 0 ≤ w1 % w0 := Int.emod_nonneg _ (by omega)
  have y0 : ¬ w0 = 0 := by omega
  have y1 : ¬ w1 = 0 := by omega
  have x1 : 0 ≤ w1 := by omega
  have x2 : 0 ≤ w2 := by omega
  have t0 : Int.tmod w1 w0 = w1 % w0 := Int.tmod_eq_emod_of_nonneg x1
  have t1 : Int.tmod w2 w1 = w2 % w1 := Int.tmod_eq_emod_of_nonneg x2
  have z0 : IntKind.i64.wrap 0 = 0 := by decide
  have z1 : IntKind.i64.wrap 1 = 1 := by decide
  have r1 : 0 ≤ w2 % w1 := Int.emod_nonneg _ (by omega)
  have g1 : decide (n0 < w1 / w0) = true := by simp; omega
  go_enter Try.func35, Try.ntmps35
  go_wp2
  refine wp_loop_rounds 4 ?_
  (rw [rounds_succ]; go_wp2_with (first | ((with_reducible refine at_slot 12 ?_); refine wl_index rfl rfl rfl rfl (ixw0 _ _ _ _) ?_) | (go_at_call 53; (with_reducible refine (ci_yes _ _ _ a0 A0 _).mono ?_); rintro e w1 ⟨rfl, rfl⟩) | (go_at_call 36; (with_reducible refine (cn_yes _ _ _ b0 B0 _).mono ?_); rintro e w1 ⟨rfl, rfl⟩)))
  (rw [rounds_succ]; go_wp2_with (first | ((with_reducible refine at_slot 12 ?_); refine wl_index rfl rfl rfl rfl (ixw1 _ _ _ _) ?_) | (go_at_call 53; (with_reducible refine (ci_yes _ _ _ a1 A1 _).mono ?_); rintro e w1 ⟨rfl, rfl⟩) | (go_at_call 36; (with_reducible refine (cn_yes _ _ _ b1 B1 _).mono ?_); rintro e w1 ⟨rfl, rfl⟩)))
  (rw [rounds_succ]; go_wp2_with (first | ((with_reducible refine at_slot 12 ?_); refine wl_index rfl rfl rfl rfl (ixw2 _ _ _ _) ?_) | (go_at_call 53; (with_reducible refine (ci_yes _ _ _ a2 A2 _).mono ?_); rintro e w1 ⟨rfl, rfl⟩) | (go_at_call 36; (with_reducible refine (cn_yes _ _ _ b2 B2 _).mono ?_); rintro e w1 ⟨rfl, rfl⟩)))
  (rw [rounds_succ]; go_wp2_with (go_at_call 39; (with_reducible refine (HF.out _).mono ?_); rintro e w3 ⟨rfl, hb⟩; obtain ⟨hc, hf⟩ := bcell9 hb; have hz : w.heap.size < w3.heap.size := by { have := hb.size; simp at this; omega }; have HB := Lib.hid hb; clear hb))
  refine wp_loop_rounds 3 ?_
  (rw [rounds_succ]; go_wp2_with fail)
  go_quiet (fail)
  go_wp2_with fail
  go_ret
  have HB3 := blw_box HB.out
  exact ⟨rfl, by repeat (first | exact HB3 | apply bdn9 | exact HB3.alloc HB3.size _)⟩
set_option maxHeartbeats 4000000 in
set_option maxRecDepth 100000 in
theorem ti_c {raw w0 w1 w2 n0 n1 n2 cap log : Int} (hw0 : WidthOk w0) (hn0 : SlotsOk n0) (hw1 : WidthOk w1) (hn1 : SlotsOk n1) (hw2 : WidthOk w2) (hn2 : SlotsOk n2) (h1 : w1 % w0 = 0) (h2 : w1 / w0 ≤ n0) (h3 : 0 < w2 % w1)  (w : World) : Calls Try.prog 35 #[.agg #[.int .i64 raw, .int .i64 w0, .int .i64 w1, .int .i64 w2, .int .i64 n0, .int .i64 n1, .int .i64 n2, .int .i64 cap, .int .i64 log]] w fun e w' => e = .returned (.bool false) ∧ Below w.heap.size w w' := by
  have HF := Lib.hid (fun w3 => factors_raw w0 w1 w2 hw0 hw1 hw2 w3)
  obtain ⟨a0, A0⟩ := hw0
  obtain ⟨b0, B0⟩ := hn0
  obtain ⟨a1, A1⟩ := hw1
  obtain ⟨b1, B1⟩ := hn1
  obtain ⟨a2, A2⟩ := hw2
  obtain ⟨b2, B2⟩ := hn2
  have q0 : 0 ≤ w1 / w0 := Int.ediv_nonneg (by omega) (by omega)
  have q1 : w1 / w0 ≤ w1 := Int.ediv_le_self _ (by omega)
  have q2 : 0 ≤ w2 / w1 := Int.ediv_nonneg (by omega) (by omega)
  have q3 : w2 / w1 ≤ w2 := Int.ediv_le_self _ (by omega)
  have r0 : 0 ≤ w1 % w0 := Int.emod_nonneg _ (by omega)
  have y0 : ¬ w0 = 0 := by omega
  have y1 : ¬ w1 = 0 := by omega
  have x1 : 0 ≤ w1 := by omega
  have x2 : 0 ≤ w2 := by omega
  have t0 : Int.tmod w1 w0 = w1 % w0 := Int.tmod_eq_emod_of_nonneg x1
  have t1 : Int.tmod w2 w1 = w2 % w1 := Int.tmod_eq_emod_of_nonneg x2
  have z0 : IntKind.i64.wrap 0 = 0 := by decide
  have z1 : IntKind.i64.wrap 1 = 1 := by decide
  have r1 : 0 ≤ w2 % w1 := Int.emod_nonneg _ (by omega)
  have g1 : decide (n0 < w1 / w0) = false := by simp; omega
  have g2 : (w2 % w1 != 0) = true := by rw [bne_iff_ne]; omega
  go_enter Try.func35, Try.ntmps35
  go_wp2
  refine wp_loop_rounds 4 ?_
  (rw [rounds_succ]; go_wp2_with (first | ((with_reducible refine at_slot 12 ?_); refine wl_index rfl rfl rfl rfl (ixw0 _ _ _ _) ?_) | (go_at_call 53; (with_reducible refine (ci_yes _ _ _ a0 A0 _).mono ?_); rintro e w1 ⟨rfl, rfl⟩) | (go_at_call 36; (with_reducible refine (cn_yes _ _ _ b0 B0 _).mono ?_); rintro e w1 ⟨rfl, rfl⟩)))
  (rw [rounds_succ]; go_wp2_with (first | ((with_reducible refine at_slot 12 ?_); refine wl_index rfl rfl rfl rfl (ixw1 _ _ _ _) ?_) | (go_at_call 53; (with_reducible refine (ci_yes _ _ _ a1 A1 _).mono ?_); rintro e w1 ⟨rfl, rfl⟩) | (go_at_call 36; (with_reducible refine (cn_yes _ _ _ b1 B1 _).mono ?_); rintro e w1 ⟨rfl, rfl⟩)))
  (rw [rounds_succ]; go_wp2_with (first | ((with_reducible refine at_slot 12 ?_); refine wl_index rfl rfl rfl rfl (ixw2 _ _ _ _) ?_) | (go_at_call 53; (with_reducible refine (ci_yes _ _ _ a2 A2 _).mono ?_); rintro e w1 ⟨rfl, rfl⟩) | (go_at_call 36; (with_reducible refine (cn_yes _ _ _ b2 B2 _).mono ?_); rintro e w1 ⟨rfl, rfl⟩)))
  (rw [rounds_succ]; go_wp2_with (go_at_call 39; (with_reducible refine (HF.out _).mono ?_); rintro e w3 ⟨rfl, hb⟩; obtain ⟨hc, hf⟩ := bcell9 hb; have hz : w.heap.size < w3.heap.size := by { have := hb.size; simp at this; omega }; have HB := Lib.hid hb; clear hb))
  refine wp_loop_rounds 3 ?_
  (rw [rounds_succ]; go_wp2_with fail)
  go_quiet (fail)
  go_wp2_with fail
  (rw [rounds_succ]; go_wp2_with fail)
  go_quiet (fail)
  go_wp2_with fail
  go_ret
  have HB3 := blw_box HB.out
  exact ⟨rfl, by repeat (first | exact HB3 | apply bdn9 | exact HB3.alloc HB3.size _)⟩
set_option maxHeartbeats 4000000 in
set_option maxRecDepth 100000 in
theorem ti_d {raw w0 w1 w2 n0 n1 n2 cap log : Int} (hw0 : WidthOk w0) (hn0 : SlotsOk n0) (hw1 : WidthOk w1) (hn1 : SlotsOk n1) (hw2 : WidthOk w2) (hn2 : SlotsOk n2) (h1 : w1 % w0 = 0) (h2 : w1 / w0 ≤ n0) (h3 : w2 % w1 = 0) (h4 : n1 < w2 / w1)  (w : World) : Calls Try.prog 35 #[.agg #[.int .i64 raw, .int .i64 w0, .int .i64 w1, .int .i64 w2, .int .i64 n0, .int .i64 n1, .int .i64 n2, .int .i64 cap, .int .i64 log]] w fun e w' => e = .returned (.bool false) ∧ Below w.heap.size w w' := by
  have HF := Lib.hid (fun w3 => factors_raw w0 w1 w2 hw0 hw1 hw2 w3)
  obtain ⟨a0, A0⟩ := hw0
  obtain ⟨b0, B0⟩ := hn0
  obtain ⟨a1, A1⟩ := hw1
  obtain ⟨b1, B1⟩ := hn1
  obtain ⟨a2, A2⟩ := hw2
  obtain ⟨b2, B2⟩ := hn2
  have q0 : 0 ≤ w1 / w0 := Int.ediv_nonneg (by omega) (by omega)
  have q1 : w1 / w0 ≤ w1 := Int.ediv_le_self _ (by omega)
  have q2 : 0 ≤ w2 / w1 := Int.ediv_nonneg (by omega) (by omega)
  have q3 : w2 / w1 ≤ w2 := Int.ediv_le_self _ (by omega)
  have r0 : 0 ≤ w1 % w0 := Int.emod_nonneg _ (by omega)
  have y0 : ¬ w0 = 0 := by omega
  have y1 : ¬ w1 = 0 := by omega
  have x1 : 0 ≤ w1 := by omega
  have x2 : 0 ≤ w2 := by omega
  have t0 : Int.tmod w1 w0 = w1 % w0 := Int.tmod_eq_emod_of_nonneg x1
  have t1 : Int.tmod w2 w1 = w2 % w1 := Int.tmod_eq_emod_of_nonneg x2
  have z0 : IntKind.i64.wrap 0 = 0 := by decide
  have z1 : IntKind.i64.wrap 1 = 1 := by decide
  have r1 : 0 ≤ w2 % w1 := Int.emod_nonneg _ (by omega)
  have g1 : decide (n0 < w1 / w0) = false := by simp; omega
  have g2 : decide (n1 < w2 / w1) = true := by simp; omega
  go_enter Try.func35, Try.ntmps35
  go_wp2
  refine wp_loop_rounds 4 ?_
  (rw [rounds_succ]; go_wp2_with (first | ((with_reducible refine at_slot 12 ?_); refine wl_index rfl rfl rfl rfl (ixw0 _ _ _ _) ?_) | (go_at_call 53; (with_reducible refine (ci_yes _ _ _ a0 A0 _).mono ?_); rintro e w1 ⟨rfl, rfl⟩) | (go_at_call 36; (with_reducible refine (cn_yes _ _ _ b0 B0 _).mono ?_); rintro e w1 ⟨rfl, rfl⟩)))
  (rw [rounds_succ]; go_wp2_with (first | ((with_reducible refine at_slot 12 ?_); refine wl_index rfl rfl rfl rfl (ixw1 _ _ _ _) ?_) | (go_at_call 53; (with_reducible refine (ci_yes _ _ _ a1 A1 _).mono ?_); rintro e w1 ⟨rfl, rfl⟩) | (go_at_call 36; (with_reducible refine (cn_yes _ _ _ b1 B1 _).mono ?_); rintro e w1 ⟨rfl, rfl⟩)))
  (rw [rounds_succ]; go_wp2_with (first | ((with_reducible refine at_slot 12 ?_); refine wl_index rfl rfl rfl rfl (ixw2 _ _ _ _) ?_) | (go_at_call 53; (with_reducible refine (ci_yes _ _ _ a2 A2 _).mono ?_); rintro e w1 ⟨rfl, rfl⟩) | (go_at_call 36; (with_reducible refine (cn_yes _ _ _ b2 B2 _).mono ?_); rintro e w1 ⟨rfl, rfl⟩)))
  (rw [rounds_succ]; go_wp2_with (go_at_call 39; (with_reducible refine (HF.out _).mono ?_); rintro e w3 ⟨rfl, hb⟩; obtain ⟨hc, hf⟩ := bcell9 hb; have hz : w.heap.size < w3.heap.size := by { have := hb.size; simp at this; omega }; have HB := Lib.hid hb; clear hb))
  refine wp_loop_rounds 3 ?_
  (rw [rounds_succ]; go_wp2_with fail)
  go_quiet (fail)
  go_wp2_with fail
  (rw [rounds_succ]; go_wp2_with fail)
  go_quiet (fail)
  go_wp2_with fail
  go_ret
  have HB3 := blw_box HB.out
  exact ⟨rfl, by repeat (first | exact HB3 | apply bdn9 | exact HB3.alloc HB3.size _)⟩
set_option maxHeartbeats 4000000 in
set_option maxRecDepth 100000 in
theorem ti_e {raw w0 w1 w2 n0 n1 n2 cap log : Int} (hw0 : WidthOk w0) (hn0 : SlotsOk n0) (hw1 : WidthOk w1) (hn1 : SlotsOk n1) (hw2 : WidthOk w2) (hn2 : SlotsOk n2) (h1 : w1 % w0 = 0) (h2 : w1 / w0 ≤ n0) (h3 : w2 % w1 = 0) (h4 : w2 / w1 ≤ n1)  (w : World) : Calls Try.prog 35 #[.agg #[.int .i64 raw, .int .i64 w0, .int .i64 w1, .int .i64 w2, .int .i64 n0, .int .i64 n1, .int .i64 n2, .int .i64 cap, .int .i64 log]] w fun e w' => e = .returned (.bool true) ∧ Below w.heap.size w w' := by
  have HF := Lib.hid (fun w3 => factors_raw w0 w1 w2 hw0 hw1 hw2 w3)
  obtain ⟨a0, A0⟩ := hw0
  obtain ⟨b0, B0⟩ := hn0
  obtain ⟨a1, A1⟩ := hw1
  obtain ⟨b1, B1⟩ := hn1
  obtain ⟨a2, A2⟩ := hw2
  obtain ⟨b2, B2⟩ := hn2
  have q0 : 0 ≤ w1 / w0 := Int.ediv_nonneg (by omega) (by omega)
  have q1 : w1 / w0 ≤ w1 := Int.ediv_le_self _ (by omega)
  have q2 : 0 ≤ w2 / w1 := Int.ediv_nonneg (by omega) (by omega)
  have q3 : w2 / w1 ≤ w2 := Int.ediv_le_self _ (by omega)
  have r0 : 0 ≤ w1 % w0 := Int.emod_nonneg _ (by omega)
  have y0 : ¬ w0 = 0 := by omega
  have y1 : ¬ w1 = 0 := by omega
  have x1 : 0 ≤ w1 := by omega
  have x2 : 0 ≤ w2 := by omega
  have t0 : Int.tmod w1 w0 = w1 % w0 := Int.tmod_eq_emod_of_nonneg x1
  have t1 : Int.tmod w2 w1 = w2 % w1 := Int.tmod_eq_emod_of_nonneg x2
  have z0 : IntKind.i64.wrap 0 = 0 := by decide
  have z1 : IntKind.i64.wrap 1 = 1 := by decide
  have r1 : 0 ≤ w2 % w1 := Int.emod_nonneg _ (by omega)
  have g1 : decide (n0 < w1 / w0) = false := by simp; omega
  have g2 : decide (n1 < w2 / w1) = false := by simp; omega
  go_enter Try.func35, Try.ntmps35
  go_wp2
  refine wp_loop_rounds 4 ?_
  (rw [rounds_succ]; go_wp2_with (first | ((with_reducible refine at_slot 12 ?_); refine wl_index rfl rfl rfl rfl (ixw0 _ _ _ _) ?_) | (go_at_call 53; (with_reducible refine (ci_yes _ _ _ a0 A0 _).mono ?_); rintro e w1 ⟨rfl, rfl⟩) | (go_at_call 36; (with_reducible refine (cn_yes _ _ _ b0 B0 _).mono ?_); rintro e w1 ⟨rfl, rfl⟩)))
  (rw [rounds_succ]; go_wp2_with (first | ((with_reducible refine at_slot 12 ?_); refine wl_index rfl rfl rfl rfl (ixw1 _ _ _ _) ?_) | (go_at_call 53; (with_reducible refine (ci_yes _ _ _ a1 A1 _).mono ?_); rintro e w1 ⟨rfl, rfl⟩) | (go_at_call 36; (with_reducible refine (cn_yes _ _ _ b1 B1 _).mono ?_); rintro e w1 ⟨rfl, rfl⟩)))
  (rw [rounds_succ]; go_wp2_with (first | ((with_reducible refine at_slot 12 ?_); refine wl_index rfl rfl rfl rfl (ixw2 _ _ _ _) ?_) | (go_at_call 53; (with_reducible refine (ci_yes _ _ _ a2 A2 _).mono ?_); rintro e w1 ⟨rfl, rfl⟩) | (go_at_call 36; (with_reducible refine (cn_yes _ _ _ b2 B2 _).mono ?_); rintro e w1 ⟨rfl, rfl⟩)))
  (rw [rounds_succ]; go_wp2_with (go_at_call 39; (with_reducible refine (HF.out _).mono ?_); rintro e w3 ⟨rfl, hb⟩; obtain ⟨hc, hf⟩ := bcell9 hb; have hz : w.heap.size < w3.heap.size := by { have := hb.size; simp at this; omega }; have HB := Lib.hid hb; clear hb))
  refine wp_loop_rounds 3 ?_
  (rw [rounds_succ]; go_wp2_with fail)
  go_quiet (fail)
  go_wp2_with fail
  (rw [rounds_succ]; go_wp2_with fail)
  go_quiet (fail)
  go_wp2_with fail
  (rw [rounds_succ]; go_wp2_with fail)
  go_ret
  have HB3 := blw_box HB.out
  exact ⟨rfl, by repeat (first | exact HB3 | apply bdn9 | exact HB3.alloc HB3.size _)⟩
/-- The tiers are right. -/
def TiersOk (c : Cf) : Prop := ((WidthOk c.w0 ∧ SlotsOk c.n0) ∧ (WidthOk c.w1 ∧ SlotsOk c.n1) ∧ (WidthOk c.w2 ∧ SlotsOk c.n2)) ∧ (c.w1 % c.w0 = 0 ∧ c.w1 / c.w0 ≤ c.n0) ∧ c.w2 % c.w1 = 0 ∧ c.w2 / c.w1 ≤ c.n1
instance (c : Cf) : Decidable (TiersOk c) := by unfold TiersOk; infer_instance
theorem ti_yes {c : Cf} (h : TiersOk c) (w : World) : Calls Try.prog 35 #[.agg (cfA c)] w fun e w' => e = .returned (.bool true) ∧ Below w.heap.size w w' := by
  obtain ⟨⟨⟨a, b⟩, ⟨a', b'⟩, a'', b''⟩, ⟨h1, h2⟩, h3, h4⟩ := h
  exact ti_e a b a' b' a'' b'' h1 h2 h3 h4 w
theorem ti_no {c : Cf} (h : ¬ TiersOk c) (w : World) : Calls Try.prog 35 #[.agg (cfA c)] w fun e w' => e = .returned (.bool false) ∧ Below w.heap.size w w' := by
  by_cases a : WidthOk c.w0
  · by_cases b : SlotsOk c.n0
    · by_cases a' : WidthOk c.w1
      · by_cases b' : SlotsOk c.n1
        · by_cases a'' : WidthOk c.w2
          · by_cases b'' : SlotsOk c.n2
            · have m0 := Int.emod_nonneg c.w1 (show c.w0 ≠ 0 by have := a.1; omega)
              have m1 := Int.emod_nonneg c.w2 (show c.w1 ≠ 0 by have := a'.1; omega)
              by_cases h1 : c.w1 % c.w0 = 0
              · by_cases h2 : c.w1 / c.w0 ≤ c.n0
                · by_cases h3 : c.w2 % c.w1 = 0
                  · by_cases h4 : c.w2 / c.w1 ≤ c.n1
                    · exact absurd ⟨⟨⟨a, b⟩, ⟨a', b'⟩, a'', b''⟩, ⟨h1, h2⟩, h3, h4⟩ h
                    · exact ti_d a b a' b' a'' b'' h1 h2 h3 (by omega) w
                  · exact ti_c a b a' b' a'' b'' h1 h2 (by omega) w
                · exact ti_b a b a' b' a'' b'' h1 (by omega) w
              · exact ti_a a b a' b' a'' b'' (by omega) w
            · exact ti_n2 a b a' b' a'' b'' w
          · exact ti_w2 a b a' b' a'' w
        · exact ti_n1 a b a' b' w
      · exact ti_w1 a b a' w
    · exact ti_n0 a b w
  · exact ti_w0 a w
end Go.Proofs.Yticmkepocacmhaa
