/-
  THE DOCUMENT'S ANSWERS for configurations: plimsollref10.Index, Home, Place, Size, Retention.
-/
import Derived.Test.YticmkepocacmhaaRk
namespace Go.Proofs.Yticmkepocacmhaa
open Go Go.RowKit

set_option maxHeartbeats 4000000 in
set_option maxRecDepth 100000 in
theorem rind_no {c : Cf} (h : ¬ CfOk c) (w : World) : Calls Try.prog 17 #[.agg (cfA c)] w fun e w' => e = .returned (.int .i64 0) ∧ Below w.heap.size w w' := by
  have HC := Lib.hid h
  clear h
  have HB := Lib.hid (Below.refl w.heap.size w)
  go_enter Try.func17, Try.ntmps17
  go_wp2_with (first
      | ((with_reducible refine at_slot 1 ?_); refine wl_box (A := (cfA c)) rfl rfl rfl ?_; intro W1 g1 k1 hb hle; have L1 := Lib.hid (Nat.le_trans HB.out.size hle); replace HB := Lib.hid (below_tr HB.out hb); clear hb hle)
      | ((with_reducible refine at_slot 3 ?_); refine wl_ld0 rfl rfl rfl k1 Try.underlying25 rfl cfInfo ?_)
      | ((with_reducible refine at_slot 4 ?_); refine wl_call rfl rfl Try.func13 (by kernel_rfl) rfl (rck_no HC.out _) rfl ?_; intro V1 hb; replace k1 := k1.keep hb; replace HB := Lib.hid (below_tr HB.out hb); clear hb))
  go_ret
  exact ⟨rfl, HB.out⟩
set_option maxHeartbeats 4000000 in
set_option maxRecDepth 100000 in
theorem rind_yes {c : Cf} (h : CfOk c) (w : World) : Calls Try.prog 17 #[.agg (cfA c)] w fun e w' => e = .returned (.int .i64 (secI c.log 120)) ∧ Below w.heap.size w w' := by
  obtain ⟨l0, l1⟩ := log_bd h
  obtain ⟨s0, s1⟩ := sec120_bd (n := c.log) (by omega) l1
  have HS := Lib.hid (fun w1 => parts_any c.log 120 (by omega) (by omega) (by omega) (by omega) w1)
  obtain ⟨s, hs⟩ : ∃ s, s = secI c.log 120 := ⟨_, rfl⟩
  rw [← hs] at s0 s1 HS ⊢
  clear hs
  have HC := Lib.hid h
  clear h
  have HB := Lib.hid (Below.refl w.heap.size w)
  go_enter Try.func17, Try.ntmps17
  go_wp2_with (first
      | ((with_reducible refine at_slot 1 ?_); refine wl_box (A := (cfA c)) rfl rfl rfl ?_; intro W1 g1 k1 hb hle; have L1 := Lib.hid (Nat.le_trans HB.out.size hle); replace HB := Lib.hid (below_tr HB.out hb); clear hb hle)
      | ((with_reducible refine at_slot 3 ?_); refine wl_ld0 rfl rfl rfl k1 Try.underlying25 rfl cfInfo ?_)
      | ((with_reducible refine at_slot 4 ?_); refine wl_call rfl rfl Try.func13 (by kernel_rfl) rfl (rck_yes HC.out _) rfl ?_; intro V1 hb; replace k1 := k1.keep hb; replace HB := Lib.hid (below_tr HB.out hb); clear hb)
      | ((with_reducible refine at_slot 7 ?_); refine wl_ld1 (v := .int .i64 c.log) rfl rfl rfl k1 Try.underlying3 rfl rfl ?_)
      | ((with_reducible refine at_slot 8 ?_); refine wl_call rfl rfl Try.func41 (by kernel_rfl) rfl (bl9 (HS.out _)) rfl ?_; intro V2 hb; replace k1 := k1.keep hb; replace HB := Lib.hid (below_tr HB.out hb); clear hb))
  go_ret
  exact ⟨rfl, HB.out⟩
set_option maxHeartbeats 4000000 in
set_option maxRecDepth 100000 in
theorem rplc_no {c : Cf} (h : ¬ CfOk c) (w : World) : Calls Try.prog 21 #[.agg (cfA c)] w fun e w' => e = .returned (.int .i64 0) ∧ Below w.heap.size w w' := by
  have HC := Lib.hid h
  clear h
  have HB := Lib.hid (Below.refl w.heap.size w)
  go_enter Try.func21, Try.ntmps21
  go_wp2_with (first
      | ((with_reducible refine at_slot 1 ?_); refine wl_box (A := (cfA c)) rfl rfl rfl ?_; intro W1 g1 k1 hb hle; have L1 := Lib.hid (Nat.le_trans HB.out.size hle); replace HB := Lib.hid (below_tr HB.out hb); clear hb hle)
      | ((with_reducible refine at_slot 3 ?_); refine wl_ld0 rfl rfl rfl k1 Try.underlying25 rfl cfInfo ?_)
      | ((with_reducible refine at_slot 4 ?_); refine wl_call rfl rfl Try.func13 (by kernel_rfl) rfl (rck_no HC.out _) rfl ?_; intro V1 hb; replace k1 := k1.keep hb; replace HB := Lib.hid (below_tr HB.out hb); clear hb))
  go_ret
  exact ⟨rfl, HB.out⟩
set_option maxHeartbeats 4000000 in
set_option maxRecDepth 100000 in
theorem rplc_yes {c : Cf} (h : CfOk c) (w : World) : Calls Try.prog 21 #[.agg (cfA c)] w fun e w' => e = .returned (.int .i64 (placeI c)) ∧ Below w.heap.size w w' := by
  have HC := Lib.hid h
  have HP := Lib.hid (fun w1 => rplace_at h.1 h.2.1 w1)
  clear h
  have HB := Lib.hid (Below.refl w.heap.size w)
  go_enter Try.func21, Try.ntmps21
  go_wp2_with (first
      | ((with_reducible refine at_slot 1 ?_); refine wl_box (A := (cfA c)) rfl rfl rfl ?_; intro W1 g1 k1 hb hle; have L1 := Lib.hid (Nat.le_trans HB.out.size hle); replace HB := Lib.hid (below_tr HB.out hb); clear hb hle)
      | ((with_reducible refine at_slot 3 ?_); refine wl_ld0 rfl rfl rfl k1 Try.underlying25 rfl cfInfo ?_)
      | ((with_reducible refine at_slot 4 ?_); refine wl_call rfl rfl Try.func13 (by kernel_rfl) rfl (rck_yes HC.out _) rfl ?_; intro V1 hb; replace k1 := k1.keep hb; replace HB := Lib.hid (below_tr HB.out hb); clear hb)
      | ((with_reducible refine at_slot 6 ?_); refine wl_ld0 rfl rfl rfl k1 Try.underlying25 rfl cfInfo ?_)
      | ((with_reducible refine at_slot 7 ?_); refine wl_call rfl rfl Try.func38 (by kernel_rfl) rfl (HP.out _) rfl ?_; intro V2 hb; replace k1 := k1.keep hb; replace HB := Lib.hid (below_tr HB.out hb); clear hb))
  go_ret
  exact ⟨rfl, HB.out⟩
set_option maxHeartbeats 4000000 in
set_option maxRecDepth 100000 in
theorem rhom_no {c : Cf} (h : ¬ CfOk c) (w : World) : Calls Try.prog 19 #[.agg (cfA c)] w fun e w' => e = .returned (.int .i64 0) ∧ Below w.heap.size w w' := by
  have HC := Lib.hid h
  clear h
  have HB := Lib.hid (Below.refl w.heap.size w)
  go_enter Try.func19, Try.ntmps19
  go_wp2_with (first
      | ((with_reducible refine at_slot 1 ?_); refine wl_box (A := (cfA c)) rfl rfl rfl ?_; intro W1 g1 k1 hb hle; have L1 := Lib.hid (Nat.le_trans HB.out.size hle); replace HB := Lib.hid (below_tr HB.out hb); clear hb hle)
      | ((with_reducible refine at_slot 3 ?_); refine wl_ld0 rfl rfl rfl k1 Try.underlying25 rfl cfInfo ?_)
      | ((with_reducible refine at_slot 4 ?_); refine wl_call rfl rfl Try.func13 (by kernel_rfl) rfl (rck_no HC.out _) rfl ?_; intro V1 hb; replace k1 := k1.keep hb; replace HB := Lib.hid (below_tr HB.out hb); clear hb))
  go_ret
  exact ⟨rfl, HB.out⟩
set_option maxHeartbeats 4000000 in
set_option maxRecDepth 100000 in
theorem rhom_yes {c : Cf} (h : CfOk c) (w : World) : Calls Try.prog 19 #[.agg (cfA c)] w fun e w' => e = .returned (.int .i64 (1 + secI c.log 120 + c.log)) ∧ Below w.heap.size w w' := by
  obtain ⟨l0, l1⟩ := log_bd h
  obtain ⟨s0, s1⟩ := sec120_bd (n := c.log) (by omega) l1
  have HS := Lib.hid (fun w1 => rind_yes h w1)
  obtain ⟨s, hs⟩ : ∃ s, s = secI c.log 120 := ⟨_, rfl⟩
  rw [← hs] at s0 s1 HS ⊢
  clear hs
  have i1 : IntKind.i64.wrap (1 + s) = 1 + s := by rw [IntKind.wrap_i64]; omega
  have i2 : IntKind.i64.wrap (1 + s + c.log) = 1 + s + c.log := by rw [IntKind.wrap_i64]; omega
  have HC := Lib.hid h
  clear h
  have HB := Lib.hid (Below.refl w.heap.size w)
  go_enter Try.func19, Try.ntmps19
  go_wp2_with (first
      | ((with_reducible refine at_slot 1 ?_); refine wl_box (A := (cfA c)) rfl rfl rfl ?_; intro W1 g1 k1 hb hle; have L1 := Lib.hid (Nat.le_trans HB.out.size hle); replace HB := Lib.hid (below_tr HB.out hb); clear hb hle)
      | ((with_reducible refine at_slot 3 ?_); refine wl_ld0 rfl rfl rfl k1 Try.underlying25 rfl cfInfo ?_)
      | ((with_reducible refine at_slot 4 ?_); refine wl_call rfl rfl Try.func13 (by kernel_rfl) rfl (rck_yes HC.out _) rfl ?_; intro V1 hb; replace k1 := k1.keep hb; replace HB := Lib.hid (below_tr HB.out hb); clear hb))
  refine wp_region_held_drew (S := fun w' => Blk w' g1 25 (cfA c) ∧ Below w.heap.size w w') (by kernel_rfl) ⟨k1.drew, HB.out.drew⟩ (fun hS => ?_)
  clear k1
  have hS2 := hS
  obtain ⟨k1, hB⟩ := hS2
  replace HB := Lib.hid hB
  clear hB
  refine wpAnyH_take (i := 0) (oi := ⟨some 6, _, _, _, _, _⟩) (v := .agg (cfA c)) rfl (by kernel_rfl) (by kernel_rfl) (by kernel_rfl) (fun _ _ _ h => h) (yi_ld0 rfl rfl rfl (fun w' h => h.1) Try.underlying25 rfl cfInfo) hS ?_
  simp only [Act.put, List.setIfInBounds_toArray, List.set_cons_zero, List.set_cons_succ]
  refine wpAnyH_take (i := 3) (oi := ⟨some 9, _, _, _, _, _⟩) (v := .pointer (some ⟨g1, 8, none⟩)) rfl (by kernel_rfl) (by kernel_rfl) (by kernel_rfl) (fun _ _ _ h => h) (yi_ok rfl (fun _ => by go_simp)) hS ?_
  simp only [Act.put, List.setIfInBounds_toArray, List.set_cons_zero, List.set_cons_succ]
  refine wpAnyH_take (i := 4) (oi := ⟨some 10, _, _, _, _, _⟩) (v := .int .i64 c.log) rfl (by kernel_rfl) (by kernel_rfl) (by kernel_rfl) (fun _ _ _ h => h) (yi_ld1 (v := .int .i64 c.log) rfl rfl rfl (fun w' h => h.1) Try.underlying3 rfl rfl) hS ?_
  simp only [Act.put, List.setIfInBounds_toArray, List.set_cons_zero, List.set_cons_succ]
  refine anyH_call (i := 1) (op := ⟨some 7, _, _, _, _, _⟩) (by kernel_rfl) rfl rfl rfl Try.func17 (by kernel_rfl) rfl (HS.out _) rfl (fun w' hb => ⟨k1.keep hb, below_tr HB.out hb⟩) (fun w' hb hS2 => ?_)
  simp only [Act.put, List.setIfInBounds_toArray, List.set_cons_zero, List.set_cons_succ]
  clear hb
  replace hS := hS2
  clear hS2
  clear k1
  have hS2 := hS
  obtain ⟨k1, hB⟩ := hS2
  replace HB := Lib.hid hB
  clear hB
  refine wpAnyH_take (i := 2) (oi := ⟨some 8, _, _, _, _, _⟩) (v := .int .i64 (1 + s)) rfl (by kernel_rfl) (by kernel_rfl) (by kernel_rfl) (fun _ _ _ h => h) (yi_ok rfl (fun _ => by go_simp)) hS ?_
  simp only [Act.put, List.setIfInBounds_toArray, List.set_cons_zero, List.set_cons_succ]
  refine wpAnyH_take (i := 5) (oi := ⟨some 11, _, _, _, _, _⟩) (v := .int .i64 (1 + s + c.log)) rfl (by kernel_rfl) (by kernel_rfl) (by kernel_rfl) (fun _ _ _ h => h) (yi_ok rfl (fun _ => by go_simp)) hS ?_
  simp only [Act.put, List.setIfInBounds_toArray, List.set_cons_zero, List.set_cons_succ]
  refine wpAnyH_take (i := 6) (oi := ⟨some 2, _, _, _, _, _⟩) (v := .int .i64 (1 + s + c.log)) rfl (by kernel_rfl) (by kernel_rfl) (by kernel_rfl) (fun _ _ _ h => h) (yi_mv (Or.inr rfl) rfl rfl) hS ?_
  simp only [Act.put, List.setIfInBounds_toArray, List.set_cons_zero, List.set_cons_succ]
  refine wpAnyH_done (by kernel_rfl) ?_ _
  clear hS
  go_wp2_with fail
  go_ret
  exact ⟨rfl, HB.out⟩
set_option maxHeartbeats 4000000 in
set_option maxRecDepth 100000 in
theorem rsiz_no {c : Cf} (h : ¬ CfOk c) (w : World) : Calls Try.prog 9 #[.agg (cfA c)] w fun e w' => e = .returned (.tuple #[.int .i64 0, .int .i64 2]) ∧ Below w.heap.size w w' := by
  have HC := Lib.hid h
  clear h
  have HB := Lib.hid (Below.refl w.heap.size w)
  go_enter Try.func9, Try.ntmps9
  go_wp2_with (first
      | ((with_reducible refine at_slot 1 ?_); refine wl_box (A := (cfA c)) rfl rfl rfl ?_; intro W1 g1 k1 hb hle; have L1 := Lib.hid (Nat.le_trans HB.out.size hle); replace HB := Lib.hid (below_tr HB.out hb); clear hb hle)
      | ((with_reducible refine at_slot 5 ?_); refine wl_ld0 rfl rfl rfl k1 Try.underlying25 rfl cfInfo ?_)
      | ((with_reducible refine at_slot 6 ?_); refine wl_call rfl rfl Try.func13 (by kernel_rfl) rfl (rck_no HC.out _) rfl ?_; intro V1 hb; replace k1 := k1.keep hb; replace HB := Lib.hid (below_tr HB.out hb); clear hb))
  go_ret2
  exact ⟨rfl, HB.out⟩
set_option maxHeartbeats 4000000 in
set_option maxRecDepth 100000 in
theorem rsiz_yes {c : Cf} (h : CfOk c) (hn : sizeN c ≤ 16777216) (w : World) : Calls Try.prog 9 #[.agg (cfA c)] w fun e w' => e = .returned (.tuple #[.int .i64 (sizeN c), .int .i64 0]) ∧ Below w.heap.size w w' := by
  obtain ⟨l0, l1⟩ := log_bd h
  obtain ⟨s0, s1⟩ := sec120_bd (n := c.log) (by omega) l1
  obtain ⟨p0, p1⟩ := place_bd h.1 h.2.1
  obtain ⟨c0, c1⟩ := h.2.2.1
  have HH := Lib.hid (fun w1 => rhom_yes h w1)
  have HP := Lib.hid (fun w1 => rplc_yes h w1)
  have m0 : 1 ≤ c.cap * placeI c := by have := Int.mul_le_mul c0 p0 (by omega) (by omega); omega
  have m1 : c.cap * placeI c ≤ 218169344 := by have := Int.mul_le_mul c1 p1 (by omega) (by omega); omega
  unfold sizeN at hn
  obtain ⟨p, hp⟩ : ∃ p, p = placeI c := ⟨_, rfl⟩
  obtain ⟨H, hH⟩ : ∃ H, H = 1 + secI c.log 120 + c.log := ⟨_, rfl⟩
  have y0 : 1 ≤ H := by omega
  have y1 : H ≤ 9000 := by omega
  unfold sizeN
  rw [← hH] at HH hn ⊢
  rw [← hp] at HP m0 m1 hn ⊢
  clear hp hH s0 s1 p0 p1
  have i1 : IntKind.i64.wrap (H + 1) = H + 1 := by rw [IntKind.wrap_i64]; omega
  have i2 : IntKind.i64.wrap (c.cap * p) = c.cap * p := by rw [IntKind.wrap_i64]; omega
  have i3 : IntKind.i64.wrap (H + 1 + c.cap * p) = H + 1 + c.cap * p := by rw [IntKind.wrap_i64]; omega
  have d1 : decide (16777216 < H + 1 + c.cap * p) = false := by simp; omega
  have HC := Lib.hid h
  clear h
  have HB := Lib.hid (Below.refl w.heap.size w)
  go_enter Try.func9, Try.ntmps9
  go_wp2_with (first
      | ((with_reducible refine at_slot 1 ?_); refine wl_box (A := (cfA c)) rfl rfl rfl ?_; intro W1 g1 k1 hb hle; have L1 := Lib.hid (Nat.le_trans HB.out.size hle); replace HB := Lib.hid (below_tr HB.out hb); clear hb hle)
      | ((with_reducible refine at_slot 5 ?_); refine wl_ld0 rfl rfl rfl k1 Try.underlying25 rfl cfInfo ?_)
      | ((with_reducible refine at_slot 6 ?_); refine wl_call rfl rfl Try.func13 (by kernel_rfl) rfl (rck_yes HC.out _) rfl ?_; intro V1 hb; replace k1 := k1.keep hb; replace HB := Lib.hid (below_tr HB.out hb); clear hb))
  refine wp_region_held_drew (S := fun w' => Blk w' g1 25 (cfA c) ∧ Below w.heap.size w w') (by kernel_rfl) ⟨k1.drew, HB.out.drew⟩ (fun hS => ?_)
  clear k1
  have hS2 := hS
  obtain ⟨k1, hB⟩ := hS2
  replace HB := Lib.hid hB
  clear hB
  refine wpAnyH_take (i := 0) (oi := ⟨some 8, _, _, _, _, _⟩) (v := .agg (cfA c)) rfl (by kernel_rfl) (by kernel_rfl) (by kernel_rfl) (fun _ _ _ h => h) (yi_ld0 rfl rfl rfl (fun w' h => h.1) Try.underlying25 rfl cfInfo) hS ?_
  simp only [Act.put, List.setIfInBounds_toArray, List.set_cons_zero, List.set_cons_succ]
  refine wpAnyH_take (i := 3) (oi := ⟨some 11, _, _, _, _, _⟩) (v := .pointer (some ⟨g1, 7, none⟩)) rfl (by kernel_rfl) (by kernel_rfl) (by kernel_rfl) (fun _ _ _ h => h) (yi_ok rfl (fun _ => by go_simp)) hS ?_
  simp only [Act.put, List.setIfInBounds_toArray, List.set_cons_zero, List.set_cons_succ]
  refine wpAnyH_take (i := 4) (oi := ⟨some 12, _, _, _, _, _⟩) (v := .int .i64 c.cap) rfl (by kernel_rfl) (by kernel_rfl) (by kernel_rfl) (fun _ _ _ h => h) (yi_ld1 (v := .int .i64 c.cap) rfl rfl rfl (fun w' h => h.1) Try.underlying3 rfl rfl) hS ?_
  simp only [Act.put, List.setIfInBounds_toArray, List.set_cons_zero, List.set_cons_succ]
  refine wpAnyH_take (i := 5) (oi := ⟨some 13, _, _, _, _, _⟩) (v := .agg (cfA c)) rfl (by kernel_rfl) (by kernel_rfl) (by kernel_rfl) (fun _ _ _ h => h) (yi_ld0 rfl rfl rfl (fun w' h => h.1) Try.underlying25 rfl cfInfo) hS ?_
  simp only [Act.put, List.setIfInBounds_toArray, List.set_cons_zero, List.set_cons_succ]
  refine anyH_call (i := 1) (op := ⟨some 9, _, _, _, _, _⟩) (by kernel_rfl) rfl rfl rfl Try.func19 (by kernel_rfl) rfl (HH.out _) rfl (fun w' hb => ⟨k1.keep hb, below_tr HB.out hb⟩) (fun w' hb hS2 => ?_)
  simp only [Act.put, List.setIfInBounds_toArray, List.set_cons_zero, List.set_cons_succ]
  clear hb
  replace hS := hS2
  clear hS2
  clear k1
  have hS2 := hS
  obtain ⟨k1, hB⟩ := hS2
  replace HB := Lib.hid hB
  clear hB
  refine wpAnyH_take (i := 2) (oi := ⟨some 10, _, _, _, _, _⟩) (v := .int .i64 (H + 1)) rfl (by kernel_rfl) (by kernel_rfl) (by kernel_rfl) (fun _ _ _ h => h) (yi_ok rfl (fun _ => by go_simp)) hS ?_
  simp only [Act.put, List.setIfInBounds_toArray, List.set_cons_zero, List.set_cons_succ]
  refine anyH_call (i := 6) (op := ⟨some 14, _, _, _, _, _⟩) (by kernel_rfl) rfl rfl rfl Try.func21 (by kernel_rfl) rfl (HP.out _) rfl (fun w' hb => ⟨k1.keep hb, below_tr HB.out hb⟩) (fun w' hb hS2 => ?_)
  simp only [Act.put, List.setIfInBounds_toArray, List.set_cons_zero, List.set_cons_succ]
  clear hb
  replace hS := hS2
  clear hS2
  clear k1
  have hS2 := hS
  obtain ⟨k1, hB⟩ := hS2
  replace HB := Lib.hid hB
  clear hB
  refine wpAnyH_take (i := 7) (oi := ⟨some 15, _, _, _, _, _⟩) (v := .int .i64 (c.cap * p)) rfl (by kernel_rfl) (by kernel_rfl) (by kernel_rfl) (fun _ _ _ h => h) (yi_ok rfl (fun _ => by go_simp)) hS ?_
  simp only [Act.put, List.setIfInBounds_toArray, List.set_cons_zero, List.set_cons_succ]
  refine wpAnyH_take (i := 8) (oi := ⟨some 16, _, _, _, _, _⟩) (v := .int .i64 (H + 1 + c.cap * p)) rfl (by kernel_rfl) (by kernel_rfl) (by kernel_rfl) (fun _ _ _ h => h) (yi_ok rfl (fun _ => by go_simp)) hS ?_
  simp only [Act.put, List.setIfInBounds_toArray, List.set_cons_zero, List.set_cons_succ]
  refine wpAnyH_take (i := 9) (oi := ⟨some 4, _, _, _, _, _⟩) (v := .int .i64 (H + 1 + c.cap * p)) rfl (by kernel_rfl) (by kernel_rfl) (by kernel_rfl) (fun _ _ _ h => h) (yi_mv (Or.inr rfl) rfl rfl) hS ?_
  simp only [Act.put, List.setIfInBounds_toArray, List.set_cons_zero, List.set_cons_succ]
  refine wpAnyH_done (by kernel_rfl) ?_ _
  clear hS
  go_wp2_with fail
  go_ret2
  exact ⟨rfl, HB.out⟩
set_option maxHeartbeats 4000000 in
set_option maxRecDepth 100000 in
theorem rsiz_big {c : Cf} (h : CfOk c) (hn : 16777216 < sizeN c) (w : World) : Calls Try.prog 9 #[.agg (cfA c)] w fun e w' => e = .returned (.tuple #[.int .i64 0, .int .i64 1]) ∧ Below w.heap.size w w' := by
  obtain ⟨l0, l1⟩ := log_bd h
  obtain ⟨s0, s1⟩ := sec120_bd (n := c.log) (by omega) l1
  obtain ⟨p0, p1⟩ := place_bd h.1 h.2.1
  obtain ⟨c0, c1⟩ := h.2.2.1
  have HH := Lib.hid (fun w1 => rhom_yes h w1)
  have HP := Lib.hid (fun w1 => rplc_yes h w1)
  have m0 : 1 ≤ c.cap * placeI c := by have := Int.mul_le_mul c0 p0 (by omega) (by omega); omega
  have m1 : c.cap * placeI c ≤ 218169344 := by have := Int.mul_le_mul c1 p1 (by omega) (by omega); omega
  unfold sizeN at hn
  obtain ⟨p, hp⟩ : ∃ p, p = placeI c := ⟨_, rfl⟩
  obtain ⟨H, hH⟩ : ∃ H, H = 1 + secI c.log 120 + c.log := ⟨_, rfl⟩
  have y0 : 1 ≤ H := by omega
  have y1 : H ≤ 9000 := by omega
  rw [← hH] at HH hn
  rw [← hp] at HP m0 m1 hn
  clear hp hH s0 s1 p0 p1
  have i1 : IntKind.i64.wrap (H + 1) = H + 1 := by rw [IntKind.wrap_i64]; omega
  have i2 : IntKind.i64.wrap (c.cap * p) = c.cap * p := by rw [IntKind.wrap_i64]; omega
  have i3 : IntKind.i64.wrap (H + 1 + c.cap * p) = H + 1 + c.cap * p := by rw [IntKind.wrap_i64]; omega
  have d1 : decide (16777216 < H + 1 + c.cap * p) = true := by simp; omega
  have HC := Lib.hid h
  clear h
  have HB := Lib.hid (Below.refl w.heap.size w)
  go_enter Try.func9, Try.ntmps9
  go_wp2_with (first
      | ((with_reducible refine at_slot 1 ?_); refine wl_box (A := (cfA c)) rfl rfl rfl ?_; intro W1 g1 k1 hb hle; have L1 := Lib.hid (Nat.le_trans HB.out.size hle); replace HB := Lib.hid (below_tr HB.out hb); clear hb hle)
      | ((with_reducible refine at_slot 5 ?_); refine wl_ld0 rfl rfl rfl k1 Try.underlying25 rfl cfInfo ?_)
      | ((with_reducible refine at_slot 6 ?_); refine wl_call rfl rfl Try.func13 (by kernel_rfl) rfl (rck_yes HC.out _) rfl ?_; intro V1 hb; replace k1 := k1.keep hb; replace HB := Lib.hid (below_tr HB.out hb); clear hb))
  refine wp_region_held_drew (S := fun w' => Blk w' g1 25 (cfA c) ∧ Below w.heap.size w w') (by kernel_rfl) ⟨k1.drew, HB.out.drew⟩ (fun hS => ?_)
  clear k1
  have hS2 := hS
  obtain ⟨k1, hB⟩ := hS2
  replace HB := Lib.hid hB
  clear hB
  refine wpAnyH_take (i := 0) (oi := ⟨some 8, _, _, _, _, _⟩) (v := .agg (cfA c)) rfl (by kernel_rfl) (by kernel_rfl) (by kernel_rfl) (fun _ _ _ h => h) (yi_ld0 rfl rfl rfl (fun w' h => h.1) Try.underlying25 rfl cfInfo) hS ?_
  simp only [Act.put, List.setIfInBounds_toArray, List.set_cons_zero, List.set_cons_succ]
  refine wpAnyH_take (i := 3) (oi := ⟨some 11, _, _, _, _, _⟩) (v := .pointer (some ⟨g1, 7, none⟩)) rfl (by kernel_rfl) (by kernel_rfl) (by kernel_rfl) (fun _ _ _ h => h) (yi_ok rfl (fun _ => by go_simp)) hS ?_
  simp only [Act.put, List.setIfInBounds_toArray, List.set_cons_zero, List.set_cons_succ]
  refine wpAnyH_take (i := 4) (oi := ⟨some 12, _, _, _, _, _⟩) (v := .int .i64 c.cap) rfl (by kernel_rfl) (by kernel_rfl) (by kernel_rfl) (fun _ _ _ h => h) (yi_ld1 (v := .int .i64 c.cap) rfl rfl rfl (fun w' h => h.1) Try.underlying3 rfl rfl) hS ?_
  simp only [Act.put, List.setIfInBounds_toArray, List.set_cons_zero, List.set_cons_succ]
  refine wpAnyH_take (i := 5) (oi := ⟨some 13, _, _, _, _, _⟩) (v := .agg (cfA c)) rfl (by kernel_rfl) (by kernel_rfl) (by kernel_rfl) (fun _ _ _ h => h) (yi_ld0 rfl rfl rfl (fun w' h => h.1) Try.underlying25 rfl cfInfo) hS ?_
  simp only [Act.put, List.setIfInBounds_toArray, List.set_cons_zero, List.set_cons_succ]
  refine anyH_call (i := 1) (op := ⟨some 9, _, _, _, _, _⟩) (by kernel_rfl) rfl rfl rfl Try.func19 (by kernel_rfl) rfl (HH.out _) rfl (fun w' hb => ⟨k1.keep hb, below_tr HB.out hb⟩) (fun w' hb hS2 => ?_)
  simp only [Act.put, List.setIfInBounds_toArray, List.set_cons_zero, List.set_cons_succ]
  clear hb
  replace hS := hS2
  clear hS2
  clear k1
  have hS2 := hS
  obtain ⟨k1, hB⟩ := hS2
  replace HB := Lib.hid hB
  clear hB
  refine wpAnyH_take (i := 2) (oi := ⟨some 10, _, _, _, _, _⟩) (v := .int .i64 (H + 1)) rfl (by kernel_rfl) (by kernel_rfl) (by kernel_rfl) (fun _ _ _ h => h) (yi_ok rfl (fun _ => by go_simp)) hS ?_
  simp only [Act.put, List.setIfInBounds_toArray, List.set_cons_zero, List.set_cons_succ]
  refine anyH_call (i := 6) (op := ⟨some 14, _, _, _, _, _⟩) (by kernel_rfl) rfl rfl rfl Try.func21 (by kernel_rfl) rfl (HP.out _) rfl (fun w' hb => ⟨k1.keep hb, below_tr HB.out hb⟩) (fun w' hb hS2 => ?_)
  simp only [Act.put, List.setIfInBounds_toArray, List.set_cons_zero, List.set_cons_succ]
  clear hb
  replace hS := hS2
  clear hS2
  clear k1
  have hS2 := hS
  obtain ⟨k1, hB⟩ := hS2
  replace HB := Lib.hid hB
  clear hB
  refine wpAnyH_take (i := 7) (oi := ⟨some 15, _, _, _, _, _⟩) (v := .int .i64 (c.cap * p)) rfl (by kernel_rfl) (by kernel_rfl) (by kernel_rfl) (fun _ _ _ h => h) (yi_ok rfl (fun _ => by go_simp)) hS ?_
  simp only [Act.put, List.setIfInBounds_toArray, List.set_cons_zero, List.set_cons_succ]
  refine wpAnyH_take (i := 8) (oi := ⟨some 16, _, _, _, _, _⟩) (v := .int .i64 (H + 1 + c.cap * p)) rfl (by kernel_rfl) (by kernel_rfl) (by kernel_rfl) (fun _ _ _ h => h) (yi_ok rfl (fun _ => by go_simp)) hS ?_
  simp only [Act.put, List.setIfInBounds_toArray, List.set_cons_zero, List.set_cons_succ]
  refine wpAnyH_take (i := 9) (oi := ⟨some 4, _, _, _, _, _⟩) (v := .int .i64 (H + 1 + c.cap * p)) rfl (by kernel_rfl) (by kernel_rfl) (by kernel_rfl) (fun _ _ _ h => h) (yi_mv (Or.inr rfl) rfl rfl) hS ?_
  simp only [Act.put, List.setIfInBounds_toArray, List.set_cons_zero, List.set_cons_succ]
  refine wpAnyH_done (by kernel_rfl) ?_ _
  clear hS
  go_wp2_with fail
  go_ret2
  exact ⟨rfl, HB.out⟩
set_option maxHeartbeats 4000000 in
set_option maxRecDepth 100000 in
theorem rret_no {c : Cf} (h : ¬ CfOk c) (w : World) : Calls Try.prog 25 #[.agg (cfA c)] w fun e w' => e = .returned (.int .i64 0) ∧ Below w.heap.size w w' := by
  have HC := Lib.hid h
  clear h
  have HB := Lib.hid (Below.refl w.heap.size w)
  go_enter Try.func25, Try.ntmps25
  go_wp2_with (first
      | ((with_reducible refine at_slot 1 ?_); refine wl_box (A := (cfA c)) rfl rfl rfl ?_; intro W1 g1 k1 hb hle; have L1 := Lib.hid (Nat.le_trans HB.out.size hle); replace HB := Lib.hid (below_tr HB.out hb); clear hb hle)
      | ((with_reducible refine at_slot 5 ?_); refine wl_ld0 rfl rfl rfl k1 Try.underlying25 rfl cfInfo ?_)
      | ((with_reducible refine at_slot 6 ?_); refine wl_call rfl rfl Try.func13 (by kernel_rfl) rfl (rck_no HC.out _) rfl ?_; intro V1 hb; replace k1 := k1.keep hb; replace HB := Lib.hid (below_tr HB.out hb); clear hb))
  go_ret
  exact ⟨rfl, HB.out⟩
set_option maxHeartbeats 4000000 in
set_option maxRecDepth 100000 in
theorem rret_yes {c : Cf} (h : CfOk c) (w : World) : Calls Try.prog 25 #[.agg (cfA c)] w fun e w' => e = .returned (.int .i64 (max (max (c.w0 * c.n0) (c.w1 * c.n1)) (c.w2 * c.n2))) ∧ Below w.heap.size w w' := by
  obtain ⟨a0, b0⟩ := prod_bd h.1.1.1.1 h.1.1.1.2
  obtain ⟨a1, b1⟩ := prod_bd h.1.1.2.1.1 h.1.1.2.1.2
  obtain ⟨a2, b2⟩ := prod_bd h.1.1.2.2.1 h.1.1.2.2.2
  have i0 : IntKind.i64.wrap (c.w0 * c.n0) = c.w0 * c.n0 := by rw [IntKind.wrap_i64]; omega
  have i1 : IntKind.i64.wrap (c.w1 * c.n1) = c.w1 * c.n1 := by rw [IntKind.wrap_i64]; omega
  have i2 : IntKind.i64.wrap (c.w2 * c.n2) = c.w2 * c.n2 := by rw [IntKind.wrap_i64]; omega
  have HC := Lib.hid h
  clear h
  have HB := Lib.hid (Below.refl w.heap.size w)
  go_enter Try.func25, Try.ntmps25
  go_wp2_with (first
      | ((with_reducible refine at_slot 1 ?_); refine wl_box (A := (cfA c)) rfl rfl rfl ?_; intro W1 g1 k1 hb hle; have L1 := Lib.hid (Nat.le_trans HB.out.size hle); replace HB := Lib.hid (below_tr HB.out hb); clear hb hle)
      | ((with_reducible refine at_slot 5 ?_); refine wl_ld0 rfl rfl rfl k1 Try.underlying25 rfl cfInfo ?_)
      | ((with_reducible refine at_slot 6 ?_); refine wl_call rfl rfl Try.func13 (by kernel_rfl) rfl (rck_yes HC.out _) rfl ?_; intro V1 hb; replace k1 := k1.keep hb; replace HB := Lib.hid (below_tr HB.out hb); clear hb))
  refine wp_loop_rounds 4 ?_
  rw [rounds_succ]
  go_wp2_with fail
  refine wp_region_held_drew (S := fun w' => Blk w' g1 25 (cfA c) ∧ Below w.heap.size w w') (by kernel_rfl) ⟨k1.drew, HB.out.drew⟩ (fun hS => ?_)
  clear k1
  have hS2 := hS
  obtain ⟨k1, hB⟩ := hS2
  replace HB := Lib.hid hB
  clear hB
  refine wpAnyH_take (i := 1) (oi := ⟨some 13, _, _, _, _, _⟩) (v := .int .i64 0) rfl (by kernel_rfl) (by kernel_rfl) (by kernel_rfl) (fun _ _ _ h => h) (yi_mv (Or.inl rfl) rfl rfl) hS ?_
  simp only [Act.put, List.setIfInBounds_toArray, List.set_cons_zero, List.set_cons_succ]
  refine wpAnyH_take (i := 2) (oi := ⟨some 14, _, _, _, _, _⟩) (v := .pointer (some ⟨g1, 1, none⟩)) rfl (by kernel_rfl) (by kernel_rfl) (by kernel_rfl) (fun _ _ _ h => h) (yi_ok rfl (fun _ => by go_simp)) hS ?_
  simp only [Act.put, List.setIfInBounds_toArray, List.set_cons_zero, List.set_cons_succ]
  refine wpAnyH_take (i := 3) (oi := ⟨some 15, _, _, _, _, _⟩) (v := .pointer (some ⟨g1, 1, none⟩)) rfl (by kernel_rfl) (by kernel_rfl) (by kernel_rfl) (fun _ _ _ h => h) (yi_ok rfl (fun _ => by go_simp)) hS ?_
  simp only [Act.put, List.setIfInBounds_toArray, List.set_cons_zero, List.set_cons_succ]
  refine wpAnyH_take (i := 4) (oi := ⟨some 16, _, _, _, _, _⟩) (v := .int .i64 c.w0) rfl (by kernel_rfl) (by kernel_rfl) (by kernel_rfl) (fun _ _ _ h => h) (yi_ld1 (v := .int .i64 c.w0) rfl rfl rfl (fun w' h => h.1) Try.underlying2 rfl rfl) hS ?_
  simp only [Act.put, List.setIfInBounds_toArray, List.set_cons_zero, List.set_cons_succ]
  refine wpAnyH_take (i := 5) (oi := ⟨some 17, _, _, _, _, _⟩) (v := .int .i64 0) rfl (by kernel_rfl) (by kernel_rfl) (by kernel_rfl) (fun _ _ _ h => h) (yi_mv (Or.inl rfl) rfl rfl) hS ?_
  simp only [Act.put, List.setIfInBounds_toArray, List.set_cons_zero, List.set_cons_succ]
  refine wpAnyH_take (i := 6) (oi := ⟨some 18, _, _, _, _, _⟩) (v := .pointer (some ⟨g1, 4, none⟩)) rfl (by kernel_rfl) (by kernel_rfl) (by kernel_rfl) (fun _ _ _ h => h) (yi_ok rfl (fun _ => by go_simp)) hS ?_
  simp only [Act.put, List.setIfInBounds_toArray, List.set_cons_zero, List.set_cons_succ]
  refine wpAnyH_take (i := 7) (oi := ⟨some 19, _, _, _, _, _⟩) (v := .pointer (some ⟨g1, 4, none⟩)) rfl (by kernel_rfl) (by kernel_rfl) (by kernel_rfl) (fun _ _ _ h => h) (yi_ok rfl (fun _ => by go_simp)) hS ?_
  simp only [Act.put, List.setIfInBounds_toArray, List.set_cons_zero, List.set_cons_succ]
  refine wpAnyH_take (i := 8) (oi := ⟨some 20, _, _, _, _, _⟩) (v := .int .i64 c.n0) rfl (by kernel_rfl) (by kernel_rfl) (by kernel_rfl) (fun _ _ _ h => h) (yi_ld1 (v := .int .i64 c.n0) rfl rfl rfl (fun w' h => h.1) Try.underlying3 rfl rfl) hS ?_
  simp only [Act.put, List.setIfInBounds_toArray, List.set_cons_zero, List.set_cons_succ]
  refine wpAnyH_take (i := 9) (oi := ⟨some 21, _, _, _, _, _⟩) (v := .int .i64 (c.w0 * c.n0)) rfl (by kernel_rfl) (by kernel_rfl) (by kernel_rfl) (fun _ _ _ h => h) (yi_ok rfl (fun _ => by go_simp)) hS ?_
  simp only [Act.put, List.setIfInBounds_toArray, List.set_cons_zero, List.set_cons_succ]
  refine wpAnyH_take (i := 0) (oi := ⟨some 12, _, _, _, _, _⟩) (v := .int .i64 0) rfl (by kernel_rfl) (by kernel_rfl) (by kernel_rfl) (fun _ _ _ h => h) (yi_mv (Or.inl rfl) rfl rfl) hS ?_
  simp only [Act.put, List.setIfInBounds_toArray, List.set_cons_zero, List.set_cons_succ]
  refine wpAnyH_take (i := 10) (oi := ⟨some 22, _, _, _, _, _⟩) (v := .int .i64 (mxI 0 (c.w0 * c.n0))) rfl (by kernel_rfl) (by kernel_rfl) (by kernel_rfl) (fun _ _ _ h => h) (yi_max rfl rfl rfl rfl) hS ?_
  simp only [Act.put, List.setIfInBounds_toArray, List.set_cons_zero, List.set_cons_succ]
  refine wpAnyH_take (i := 11) (oi := ⟨some 3, _, _, _, _, _⟩) (v := .int .i64 (mxI 0 (c.w0 * c.n0))) rfl (by kernel_rfl) (by kernel_rfl) (by kernel_rfl) (fun _ _ _ h => h) (yi_mv (Or.inr rfl) rfl rfl) hS ?_
  simp only [Act.put, List.setIfInBounds_toArray, List.set_cons_zero, List.set_cons_succ]
  refine wpAnyH_done (by kernel_rfl) ?_ _
  clear hS
  go_wp2_with fail
  rw [rounds_succ]
  go_wp2_with fail
  refine wp_region_held_drew (S := fun w' => Blk w' g1 25 (cfA c) ∧ Below w.heap.size w w') (by kernel_rfl) ⟨k1.drew, HB.out.drew⟩ (fun hS => ?_)
  clear k1
  have hS2 := hS
  obtain ⟨k1, hB⟩ := hS2
  replace HB := Lib.hid hB
  clear hB
  refine wpAnyH_take (i := 1) (oi := ⟨some 13, _, _, _, _, _⟩) (v := .int .i64 1) rfl (by kernel_rfl) (by kernel_rfl) (by kernel_rfl) (fun _ _ _ h => h) (yi_mv (Or.inl rfl) rfl rfl) hS ?_
  simp only [Act.put, List.setIfInBounds_toArray, List.set_cons_zero, List.set_cons_succ]
  refine wpAnyH_take (i := 2) (oi := ⟨some 14, _, _, _, _, _⟩) (v := .pointer (some ⟨g1, 1, none⟩)) rfl (by kernel_rfl) (by kernel_rfl) (by kernel_rfl) (fun _ _ _ h => h) (yi_ok rfl (fun _ => by go_simp)) hS ?_
  simp only [Act.put, List.setIfInBounds_toArray, List.set_cons_zero, List.set_cons_succ]
  refine wpAnyH_take (i := 3) (oi := ⟨some 15, _, _, _, _, _⟩) (v := .pointer (some ⟨g1, 2, none⟩)) rfl (by kernel_rfl) (by kernel_rfl) (by kernel_rfl) (fun _ _ _ h => h) (yi_ok rfl (fun _ => by go_simp)) hS ?_
  simp only [Act.put, List.setIfInBounds_toArray, List.set_cons_zero, List.set_cons_succ]
  refine wpAnyH_take (i := 4) (oi := ⟨some 16, _, _, _, _, _⟩) (v := .int .i64 c.w1) rfl (by kernel_rfl) (by kernel_rfl) (by kernel_rfl) (fun _ _ _ h => h) (yi_ld1 (v := .int .i64 c.w1) rfl rfl rfl (fun w' h => h.1) Try.underlying2 rfl rfl) hS ?_
  simp only [Act.put, List.setIfInBounds_toArray, List.set_cons_zero, List.set_cons_succ]
  refine wpAnyH_take (i := 5) (oi := ⟨some 17, _, _, _, _, _⟩) (v := .int .i64 1) rfl (by kernel_rfl) (by kernel_rfl) (by kernel_rfl) (fun _ _ _ h => h) (yi_mv (Or.inl rfl) rfl rfl) hS ?_
  simp only [Act.put, List.setIfInBounds_toArray, List.set_cons_zero, List.set_cons_succ]
  refine wpAnyH_take (i := 6) (oi := ⟨some 18, _, _, _, _, _⟩) (v := .pointer (some ⟨g1, 4, none⟩)) rfl (by kernel_rfl) (by kernel_rfl) (by kernel_rfl) (fun _ _ _ h => h) (yi_ok rfl (fun _ => by go_simp)) hS ?_
  simp only [Act.put, List.setIfInBounds_toArray, List.set_cons_zero, List.set_cons_succ]
  refine wpAnyH_take (i := 7) (oi := ⟨some 19, _, _, _, _, _⟩) (v := .pointer (some ⟨g1, 5, none⟩)) rfl (by kernel_rfl) (by kernel_rfl) (by kernel_rfl) (fun _ _ _ h => h) (yi_ok rfl (fun _ => by go_simp)) hS ?_
  simp only [Act.put, List.setIfInBounds_toArray, List.set_cons_zero, List.set_cons_succ]
  refine wpAnyH_take (i := 8) (oi := ⟨some 20, _, _, _, _, _⟩) (v := .int .i64 c.n1) rfl (by kernel_rfl) (by kernel_rfl) (by kernel_rfl) (fun _ _ _ h => h) (yi_ld1 (v := .int .i64 c.n1) rfl rfl rfl (fun w' h => h.1) Try.underlying3 rfl rfl) hS ?_
  simp only [Act.put, List.setIfInBounds_toArray, List.set_cons_zero, List.set_cons_succ]
  refine wpAnyH_take (i := 9) (oi := ⟨some 21, _, _, _, _, _⟩) (v := .int .i64 (c.w1 * c.n1)) rfl (by kernel_rfl) (by kernel_rfl) (by kernel_rfl) (fun _ _ _ h => h) (yi_ok rfl (fun _ => by go_simp)) hS ?_
  simp only [Act.put, List.setIfInBounds_toArray, List.set_cons_zero, List.set_cons_succ]
  refine wpAnyH_take (i := 0) (oi := ⟨some 12, _, _, _, _, _⟩) (v := .int .i64 (mxI 0 (c.w0 * c.n0))) rfl (by kernel_rfl) (by kernel_rfl) (by kernel_rfl) (fun _ _ _ h => h) (yi_mv (Or.inl rfl) rfl rfl) hS ?_
  simp only [Act.put, List.setIfInBounds_toArray, List.set_cons_zero, List.set_cons_succ]
  refine wpAnyH_take (i := 10) (oi := ⟨some 22, _, _, _, _, _⟩) (v := .int .i64 (mxI (mxI 0 (c.w0 * c.n0)) (c.w1 * c.n1))) rfl (by kernel_rfl) (by kernel_rfl) (by kernel_rfl) (fun _ _ _ h => h) (yi_max rfl rfl rfl rfl) hS ?_
  simp only [Act.put, List.setIfInBounds_toArray, List.set_cons_zero, List.set_cons_succ]
  refine wpAnyH_take (i := 11) (oi := ⟨some 3, _, _, _, _, _⟩) (v := .int .i64 (mxI (mxI 0 (c.w0 * c.n0)) (c.w1 * c.n1))) rfl (by kernel_rfl) (by kernel_rfl) (by kernel_rfl) (fun _ _ _ h => h) (yi_mv (Or.inr rfl) rfl rfl) hS ?_
  simp only [Act.put, List.setIfInBounds_toArray, List.set_cons_zero, List.set_cons_succ]
  refine wpAnyH_done (by kernel_rfl) ?_ _
  clear hS
  go_wp2_with fail
  rw [rounds_succ]
  go_wp2_with fail
  refine wp_region_held_drew (S := fun w' => Blk w' g1 25 (cfA c) ∧ Below w.heap.size w w') (by kernel_rfl) ⟨k1.drew, HB.out.drew⟩ (fun hS => ?_)
  clear k1
  have hS2 := hS
  obtain ⟨k1, hB⟩ := hS2
  replace HB := Lib.hid hB
  clear hB
  refine wpAnyH_take (i := 1) (oi := ⟨some 13, _, _, _, _, _⟩) (v := .int .i64 2) rfl (by kernel_rfl) (by kernel_rfl) (by kernel_rfl) (fun _ _ _ h => h) (yi_mv (Or.inl rfl) rfl rfl) hS ?_
  simp only [Act.put, List.setIfInBounds_toArray, List.set_cons_zero, List.set_cons_succ]
  refine wpAnyH_take (i := 2) (oi := ⟨some 14, _, _, _, _, _⟩) (v := .pointer (some ⟨g1, 1, none⟩)) rfl (by kernel_rfl) (by kernel_rfl) (by kernel_rfl) (fun _ _ _ h => h) (yi_ok rfl (fun _ => by go_simp)) hS ?_
  simp only [Act.put, List.setIfInBounds_toArray, List.set_cons_zero, List.set_cons_succ]
  refine wpAnyH_take (i := 3) (oi := ⟨some 15, _, _, _, _, _⟩) (v := .pointer (some ⟨g1, 3, none⟩)) rfl (by kernel_rfl) (by kernel_rfl) (by kernel_rfl) (fun _ _ _ h => h) (yi_ok rfl (fun _ => by go_simp)) hS ?_
  simp only [Act.put, List.setIfInBounds_toArray, List.set_cons_zero, List.set_cons_succ]
  refine wpAnyH_take (i := 4) (oi := ⟨some 16, _, _, _, _, _⟩) (v := .int .i64 c.w2) rfl (by kernel_rfl) (by kernel_rfl) (by kernel_rfl) (fun _ _ _ h => h) (yi_ld1 (v := .int .i64 c.w2) rfl rfl rfl (fun w' h => h.1) Try.underlying2 rfl rfl) hS ?_
  simp only [Act.put, List.setIfInBounds_toArray, List.set_cons_zero, List.set_cons_succ]
  refine wpAnyH_take (i := 5) (oi := ⟨some 17, _, _, _, _, _⟩) (v := .int .i64 2) rfl (by kernel_rfl) (by kernel_rfl) (by kernel_rfl) (fun _ _ _ h => h) (yi_mv (Or.inl rfl) rfl rfl) hS ?_
  simp only [Act.put, List.setIfInBounds_toArray, List.set_cons_zero, List.set_cons_succ]
  refine wpAnyH_take (i := 6) (oi := ⟨some 18, _, _, _, _, _⟩) (v := .pointer (some ⟨g1, 4, none⟩)) rfl (by kernel_rfl) (by kernel_rfl) (by kernel_rfl) (fun _ _ _ h => h) (yi_ok rfl (fun _ => by go_simp)) hS ?_
  simp only [Act.put, List.setIfInBounds_toArray, List.set_cons_zero, List.set_cons_succ]
  refine wpAnyH_take (i := 7) (oi := ⟨some 19, _, _, _, _, _⟩) (v := .pointer (some ⟨g1, 6, none⟩)) rfl (by kernel_rfl) (by kernel_rfl) (by kernel_rfl) (fun _ _ _ h => h) (yi_ok rfl (fun _ => by go_simp)) hS ?_
  simp only [Act.put, List.setIfInBounds_toArray, List.set_cons_zero, List.set_cons_succ]
  refine wpAnyH_take (i := 8) (oi := ⟨some 20, _, _, _, _, _⟩) (v := .int .i64 c.n2) rfl (by kernel_rfl) (by kernel_rfl) (by kernel_rfl) (fun _ _ _ h => h) (yi_ld1 (v := .int .i64 c.n2) rfl rfl rfl (fun w' h => h.1) Try.underlying3 rfl rfl) hS ?_
  simp only [Act.put, List.setIfInBounds_toArray, List.set_cons_zero, List.set_cons_succ]
  refine wpAnyH_take (i := 9) (oi := ⟨some 21, _, _, _, _, _⟩) (v := .int .i64 (c.w2 * c.n2)) rfl (by kernel_rfl) (by kernel_rfl) (by kernel_rfl) (fun _ _ _ h => h) (yi_ok rfl (fun _ => by go_simp)) hS ?_
  simp only [Act.put, List.setIfInBounds_toArray, List.set_cons_zero, List.set_cons_succ]
  refine wpAnyH_take (i := 0) (oi := ⟨some 12, _, _, _, _, _⟩) (v := .int .i64 (mxI (mxI 0 (c.w0 * c.n0)) (c.w1 * c.n1))) rfl (by kernel_rfl) (by kernel_rfl) (by kernel_rfl) (fun _ _ _ h => h) (yi_mv (Or.inl rfl) rfl rfl) hS ?_
  simp only [Act.put, List.setIfInBounds_toArray, List.set_cons_zero, List.set_cons_succ]
  refine wpAnyH_take (i := 10) (oi := ⟨some 22, _, _, _, _, _⟩) (v := .int .i64 (mxI (mxI (mxI 0 (c.w0 * c.n0)) (c.w1 * c.n1)) (c.w2 * c.n2))) rfl (by kernel_rfl) (by kernel_rfl) (by kernel_rfl) (fun _ _ _ h => h) (yi_max rfl rfl rfl rfl) hS ?_
  simp only [Act.put, List.setIfInBounds_toArray, List.set_cons_zero, List.set_cons_succ]
  refine wpAnyH_take (i := 11) (oi := ⟨some 3, _, _, _, _, _⟩) (v := .int .i64 (mxI (mxI (mxI 0 (c.w0 * c.n0)) (c.w1 * c.n1)) (c.w2 * c.n2))) rfl (by kernel_rfl) (by kernel_rfl) (by kernel_rfl) (fun _ _ _ h => h) (yi_mv (Or.inr rfl) rfl rfl) hS ?_
  simp only [Act.put, List.setIfInBounds_toArray, List.set_cons_zero, List.set_cons_succ]
  refine wpAnyH_done (by kernel_rfl) ?_ _
  clear hS
  go_wp2_with fail
  rw [rounds_succ]
  go_wp2_with fail
  go_ret
  refine ⟨rt_p ?_, HB.out⟩
  unfold mxI
  clear i0 i1 i2
  generalize c.w0 * c.n0 = p0 at *
  generalize c.w1 * c.n1 = p1 at *
  generalize c.w2 * c.n2 = p2 at *
  repeat' split
  all_goals omega
theorem rind_any (c : Cf) (w : World) : Calls Try.prog 17 #[.agg (cfA c)] w fun e w' => e = .returned (.int .i64 (indI c)) ∧ Below w.heap.size w w' := by
  unfold indI
  by_cases h : CfOk c
  · rw [if_pos h]; exact rind_yes h w
  · rw [if_neg h]; exact rind_no h w
theorem rplc_any (c : Cf) (w : World) : Calls Try.prog 21 #[.agg (cfA c)] w fun e w' => e = .returned (.int .i64 (plcI c)) ∧ Below w.heap.size w w' := by
  unfold plcI
  by_cases h : CfOk c
  · rw [if_pos h]; exact rplc_yes h w
  · rw [if_neg h]; exact rplc_no h w
theorem rhom_any (c : Cf) (w : World) : Calls Try.prog 19 #[.agg (cfA c)] w fun e w' => e = .returned (.int .i64 (homI c)) ∧ Below w.heap.size w w' := by
  unfold homI
  by_cases h : CfOk c
  · rw [if_pos h]; exact rhom_yes h w
  · rw [if_neg h]; exact rhom_no h w
theorem rret_any (c : Cf) (w : World) : Calls Try.prog 25 #[.agg (cfA c)] w fun e w' => e = .returned (.int .i64 (retI c)) ∧ Below w.heap.size w w' := by
  unfold retI
  by_cases h : CfOk c
  · rw [if_pos h]; exact rret_yes h w
  · rw [if_neg h]; exact rret_no h w
theorem rcka_any (c : Cf) (w : World) : Calls Try.prog 13 #[.agg (cfA c)] w fun e w' => e = .returned (.int .i64 (ckI c)) ∧ Below w.heap.size w w' := by
  unfold ckI
  split
  · exact rck_yes (by assumption) w
  · exact rck_no (by assumption) w
theorem rsiz_any (c : Cf) (w : World) : Calls Try.prog 9 #[.agg (cfA c)] w fun e w' => e = .returned (.tuple #[.int .i64 (szI c), .int .i64 (szE c)]) ∧ Below w.heap.size w w' := by
  by_cases h : CfOk c
  · by_cases hn : sizeN c ≤ 16777216
    · rw [show szI c = sizeN c from if_pos ⟨h, hn⟩, show szE c = 0 by unfold szE; rw [if_pos h, if_pos hn]]; exact rsiz_yes h hn w
    · rw [show szI c = 0 from if_neg (fun h => hn h.2), show szE c = 1 by unfold szE; rw [if_pos h, if_neg hn]]; exact rsiz_big h (by omega) w
  · rw [show szI c = 0 from if_neg (fun h' => h h'.1), show szE c = 2 from if_neg h]; exact rsiz_no h w
end Go.Proofs.Yticmkepocacmhaa
