/-
  WALKS: plimsolltop.begins5, TopNested: they answer true.
-/
import Derived.Test.YticmkepocacmhaaCs5
namespace Go.Proofs.Yticmkepocacmhaa
open Go Go.RowKit

def zeroCf : Cf := ⟨0, 0, 0, 0, 0, 0, 0, 0, 0⟩
theorem cf_zero : (Try.prog.info? 25).map (·.zero) = some (some (.agg (cfA zeroCf))) := by kernel_rfl
def fitC : Cf := ⟨20, 10, 20, 60, 4, 5, 6, 3, 9⟩
theorem fit_ok : CfOk fitC := by decide +kernel
set_option maxHeartbeats 1000000 in
theorem fit_any (w : World) : Calls Try.prog 30 #[] w fun e w' => e = .returned (.agg (cfA fitC)) ∧ Below w.heap.size w w' := by
  go_enter Try.func30, Try.ntmps30
  go_wp2
  refine bodyPost_ret (v := .agg #[.int .i64 20, .int .i64 10, .int .i64 20, .int .i64 60, .int .i64 4, .int .i64 5, .int .i64 6, .int .i64 3, .int .i64 9]) (by simp [results, Try.results30, go_sem]) rfl ⟨rfl, by go_grown⟩
theorem of_at {t w i e : Int} (h1 : ofI t w = i) (h2 : ofE t w = e) (w0 : World) : Calls Try.prog 27 #[.int .i64 t, .int .i64 w] w0 fun r w' => r = .returned (.tuple #[.int .i64 i, .int .i64 e]) ∧ Below w0.heap.size w0 w' := by
  have := wof_any t w w0
  rw [h1, h2] at this
  exact bl9 this
theorem beg9_at {t w i e : Int} (h1 : begI t w = i) (h2 : begE t w = e) (w0 : World) : Calls Try.prog 29 #[.int .i64 t, .int .i64 w] w0 fun r w' => r = .returned (.tuple #[.int .i64 i, .int .i64 e]) ∧ Below w0.heap.size w0 w' := by
  have := wbeg_any t w w0
  rw [h1, h2] at this
  exact bl9 this
theorem gone_at {t now w n : Int} {b : Bool} (h : goneB t now w n = b) (w0 : World) : Calls Try.prog 28 #[.int .i64 t, .int .i64 now, .int .i64 w, .int .i64 n] w0 fun r w' => r = .returned (.bool b) ∧ Below w0.heap.size w0 w' := by
  have := wgone_any t now w n w0
  rw [h] at this
  exact bl9 this
theorem b5_1 : ofI 25 10 = 2 ∧ ofE 25 10 = 0 := by decide +kernel
theorem b5_2 : goneB 5 100 10 3 = true := by decide +kernel
theorem hom_fit (w : World) : Calls Try.prog 18 #[.agg (cfA fitC)] w fun e w' => e = .returned (.int .i64 11) ∧ Below w.heap.size w w' := by
  have := hom_yes fit_ok w
  rwa [show 1 + secI fitC.log 120 + fitC.log = 11 by decide +kernel] at this
theorem plc_fit (w : World) : Calls Try.prog 20 #[.agg (cfA fitC)] w fun e w' => e = .returned (.int .i64 8) ∧ Below w.heap.size w w' := by
  have := plc_yes fit_ok w
  rwa [show placeI fitC = 8 by decide +kernel] at this
set_option maxHeartbeats 4000000 in
set_option maxRecDepth 100000 in
theorem begins5_any (w : World) : Calls Try.prog 26 #[] w fun e w' => e = .returned (.bool true) ∧ Below w.heap.size w w' := by
  have HB := Lib.hid (Below.refl w.heap.size w)
  go_enter Try.func26, Try.ntmps26
  go_wp2_with (first
      | ((with_reducible refine at_slot 4 ?_); refine wl_call rfl rfl Try.func30 (by kernel_rfl) rfl (fit_any _) rfl ?_; intro V1 hb; replace HB := Lib.hid (below_tr HB.out hb); clear hb)
      | ((with_reducible refine at_slot 1 ?_); refine wl_alloc (A := (cfA zeroCf)) rfl rfl cf_zero rfl ?_; intro W1 g1 k1 hb hle; have L1 := Lib.hid (Nat.le_trans HB.out.size hle); replace HB := Lib.hid (below_tr HB.out hb); clear hb hle)
      | ((with_reducible refine at_store 1 ?_); refine wl_st0 (A' := (cfA fitC)) rfl rfl rfl rfl k1 rfl cfInfo (cfA_one fitC) ?_; intro V2 kn hu; replace HB := Lib.hid (upd_below HB.out hu L1.out); clear k1; have k1 : Blk _ g1 _ (cfA fitC) := kn; clear kn hu)
      | ((with_reducible refine at_slot 6 ?_); refine wl_call rfl rfl Try.func27 (by kernel_rfl) rfl (of_at b5_1.1 b5_1.2 _) rfl ?_; intro V3 hb; replace k1 := k1.keep hb; replace HB := Lib.hid (below_tr HB.out hb); clear hb)
      | ((with_reducible refine at_slot 9 ?_); refine wl_ld0 rfl rfl rfl k1 Try.underlying25 rfl cfInfo ?_)
      | ((with_reducible refine at_slot 10 ?_); refine wl_call rfl rfl Try.func12 (by kernel_rfl) rfl (cck_yes fit_ok _) rfl ?_; intro V4 hb; replace k1 := k1.keep hb; replace HB := Lib.hid (below_tr HB.out hb); clear hb)
      | ((with_reducible refine at_slot 13 ?_); refine wl_ld0 rfl rfl rfl k1 Try.underlying25 rfl cfInfo ?_)
      | ((with_reducible refine at_slot 14 ?_); refine wl_call rfl rfl Try.func18 (by kernel_rfl) rfl (hom_fit _) rfl ?_; intro V5 hb; replace k1 := k1.keep hb; replace HB := Lib.hid (below_tr HB.out hb); clear hb)
      | ((with_reducible refine at_slot 18 ?_); refine wl_ld0 rfl rfl rfl k1 Try.underlying25 rfl cfInfo ?_)
      | ((with_reducible refine at_slot 19 ?_); refine wl_call rfl rfl Try.func20 (by kernel_rfl) rfl (plc_fit _) rfl ?_; intro V6 hb; replace k1 := k1.keep hb; replace HB := Lib.hid (below_tr HB.out hb); clear hb)
      | ((with_reducible refine at_slot 31 ?_); refine wl_call rfl rfl Try.func28 (by kernel_rfl) rfl (gone_at b5_2 _) rfl ?_; intro V7 hb; replace k1 := k1.keep hb; replace HB := Lib.hid (below_tr HB.out hb); clear hb))
  go_ret
  exact ⟨rfl, HB.out⟩
theorem big_div5 {t w b : Int} (hw : 1 ≤ w) : t / w / b = t / (w * b) := Int.ediv_ediv_of_nonneg (by omega)
/-- A window of a greater width is made of whole ones. -/
theorem nest_div {t a b : Int} (ha : 1 ≤ a) (h : b % a = 0) : t / a / (b / a) = t / b := by
  have e : a * (b / a) = b := by have := Int.mul_ediv_add_emod b a; omega
  rw [big_div5 ha, e]
theorem fac_pos {a b : Int} (ha : 1 ≤ a) (hb : 1 ≤ b) (h : b % a = 0) : 1 ≤ b / a := by
  have e : a * (b / a) = b := by have := Int.mul_ediv_add_emod b a; omega
  by_cases hq : 1 ≤ b / a
  · exact hq
  · have : a * (b / a) ≤ a * 0 := Int.mul_le_mul_of_nonneg_left (by omega) (by omega)
    omega
theorem beg_at5 {t w : Int} (ht : TimeOk t) (hw : WidthOk w) : BegOk (t / w) w := by
  obtain ⟨h1, h2⟩ := ht
  have hw' := hw
  obtain ⟨h3, h4⟩ := hw
  exact ⟨hw', Int.ediv_nonneg h1 (by omega), Int.ediv_le_ediv (by omega) (by omega)⟩
/-- What the present window of a greater width begins with is kept. -/
theorem nest_kept {now a b n : Int} (ht : TimeOk now) (ha : WidthOk a) (hb : WidthOk b) (hn : SlotsOk n) (h : b % a = 0) (hf : b / a ≤ n) : goneB (now / b * b) now a n = false := by
  have e : a * (b / a) = b := by have := Int.mul_ediv_add_emod b a; omega
  have f1 := fac_pos ha.1 hb.1 h
  obtain ⟨q0, q1⟩ := quo_bd ⟨ht, ha⟩
  have ho : OldOk now a n := ⟨⟨ht, ha⟩, hn⟩
  have hd : now / b * b / a = now / b * (b / a) := by
    have : now / b * b = now / b * (b / a) * a := by rw [Int.mul_assoc, Int.mul_comm (b / a) a, e]
    rw [this, Int.mul_ediv_cancel _ (by have := ha.1; omega)]
  have hq : now / a < now / b * (b / a) + b / a := by
    have h1 := Int.mul_ediv_add_emod (now / a) (b / a)
    have h2 := Int.emod_lt_of_pos (now / a) (show 0 < b / a by omega)
    rw [nest_div ha.1 h, Int.mul_comm] at h1
    omega
  have g0 : 0 ≤ now / b * (b / a) := Int.mul_nonneg (Int.ediv_nonneg ht.1 (by have := hb.1; omega)) (by omega)
  unfold goneB
  simp only [decide_eq_false_iff_not]
  rintro ⟨_, h2⟩
  rw [hd] at h2
  unfold oldI at h2
  rw [if_pos ho] at h2
  split at h2 <;> omega
/-- What is as old as the width, so often, is gone. -/
theorem old_gone {t now a n : Int} (h0 : TimeOk t) (ht : TimeOk now) (ha : WidthOk a) (hn : SlotsOk n) (h : a * n ≤ now - t) : goneB t now a n = true := by
  have ho : OldOk now a n := ⟨⟨ht, ha⟩, hn⟩
  have h1 : t / a + n ≤ now / a := by
    have : (t + n * a) / a = t / a + n := Int.add_mul_ediv_right _ _ (by have := ha.1; omega)
    rw [← this]
    exact Int.ediv_le_ediv (by have := ha.1; omega) (by rw [Int.mul_comm]; omega)
  have q0 := (quo_bd ⟨h0, ha⟩).1
  unfold goneB
  simp only [decide_eq_true_eq]
  refine ⟨⟨h0, ha⟩, ?_⟩
  unfold oldI
  rw [if_pos ho]
  split <;> omega
set_option maxHeartbeats 4000000 in
set_option maxRecDepth 100000 in
theorem nest_no {c : Cf} {t now : Int} (h : ¬ CfOk c) (w : World) : Calls Try.prog 5 #[.agg (cfA c), .int .i64 t, .int .i64 now] w fun e w' => e = .returned (.bool true) ∧ Below w.heap.size w w' := by
  have HC := Lib.hid h
  clear h
  have HB := Lib.hid (Below.refl w.heap.size w)
  go_enter Try.func5, Try.ntmps5
  go_wp2_with (first
      | ((with_reducible refine at_slot 3 ?_); refine wl_box (A := (cfA c)) rfl rfl rfl ?_; intro W1 g1 k1 hb hle; have L1 := Lib.hid (Nat.le_trans HB.out.size hle); replace HB := Lib.hid (below_tr HB.out hb); clear hb hle)
      | ((with_reducible refine at_slot 21 ?_); refine wl_call rfl rfl Try.func26 (by kernel_rfl) rfl (begins5_any _) rfl ?_; intro V1 hb; replace k1 := k1.keep hb; replace HB := Lib.hid (below_tr HB.out hb); clear hb)
      | ((with_reducible refine at_slot 23 ?_); refine wl_ld0 rfl rfl rfl k1 Try.underlying25 rfl cfInfo ?_)
      | ((with_reducible refine at_slot 24 ?_); refine wl_call rfl rfl Try.func12 (by kernel_rfl) rfl (cck_no HC.out _) rfl ?_; intro V2 hb; replace k1 := k1.keep hb; replace HB := Lib.hid (below_tr HB.out hb); clear hb))
  go_ret
  exact ⟨rfl, HB.out⟩
set_option maxHeartbeats 4000000 in
set_option maxRecDepth 100000 in
theorem nest_t {c : Cf} {t now : Int} (h : CfOk c) (ht : ¬ (TimeOk t ∧ WidthOk 1)) (w : World) : Calls Try.prog 5 #[.agg (cfA c), .int .i64 t, .int .i64 now] w fun e w' => e = .returned (.bool true) ∧ Below w.heap.size w w' := by
  have HC := Lib.hid h
  have HT := Lib.hid ht
  clear h ht
  have HB := Lib.hid (Below.refl w.heap.size w)
  go_enter Try.func5, Try.ntmps5
  go_wp2_with (first
      | ((with_reducible refine at_slot 3 ?_); refine wl_box (A := (cfA c)) rfl rfl rfl ?_; intro W1 g1 k1 hb hle; have L1 := Lib.hid (Nat.le_trans HB.out.size hle); replace HB := Lib.hid (below_tr HB.out hb); clear hb hle)
      | ((with_reducible refine at_slot 21 ?_); refine wl_call rfl rfl Try.func26 (by kernel_rfl) rfl (begins5_any _) rfl ?_; intro V1 hb; replace k1 := k1.keep hb; replace HB := Lib.hid (below_tr HB.out hb); clear hb)
      | ((with_reducible refine at_slot 23 ?_); refine wl_ld0 rfl rfl rfl k1 Try.underlying25 rfl cfInfo ?_)
      | ((with_reducible refine at_slot 24 ?_); refine wl_call rfl rfl Try.func12 (by kernel_rfl) rfl (cck_yes HC.out _) rfl ?_; intro V2 hb; replace k1 := k1.keep hb; replace HB := Lib.hid (below_tr HB.out hb); clear hb)
      | ((with_reducible refine at_slot 28 ?_); refine wl_call rfl rfl Try.func27 (by kernel_rfl) rfl (of_at (if_neg HT.out) (if_neg HT.out) _) rfl ?_; intro V3 hb; replace k1 := k1.keep hb; replace HB := Lib.hid (below_tr HB.out hb); clear hb)
      | ((with_reducible refine at_slot 33 ?_); refine wl_call rfl rfl Try.func27 (by kernel_rfl) rfl (bl9 (wof_any now 1 _)) rfl ?_; intro V4 hb; replace k1 := k1.keep hb; replace HB := Lib.hid (below_tr HB.out hb); clear hb))
  go_ret
  exact ⟨rfl, HB.out⟩
set_option maxHeartbeats 4000000 in
set_option maxRecDepth 100000 in
theorem nest_now {c : Cf} {t now : Int} (h : CfOk c) (ht : TimeOk t ∧ WidthOk 1) (hn : ¬ (TimeOk now ∧ WidthOk 1)) (w : World) : Calls Try.prog 5 #[.agg (cfA c), .int .i64 t, .int .i64 now] w fun e w' => e = .returned (.bool true) ∧ Below w.heap.size w w' := by
  have HC := Lib.hid h
  have HT := Lib.hid ht
  have HN := Lib.hid hn
  clear h ht hn
  have HB := Lib.hid (Below.refl w.heap.size w)
  go_enter Try.func5, Try.ntmps5
  go_wp2_with (first
      | ((with_reducible refine at_slot 3 ?_); refine wl_box (A := (cfA c)) rfl rfl rfl ?_; intro W1 g1 k1 hb hle; have L1 := Lib.hid (Nat.le_trans HB.out.size hle); replace HB := Lib.hid (below_tr HB.out hb); clear hb hle)
      | ((with_reducible refine at_slot 21 ?_); refine wl_call rfl rfl Try.func26 (by kernel_rfl) rfl (begins5_any _) rfl ?_; intro V1 hb; replace k1 := k1.keep hb; replace HB := Lib.hid (below_tr HB.out hb); clear hb)
      | ((with_reducible refine at_slot 23 ?_); refine wl_ld0 rfl rfl rfl k1 Try.underlying25 rfl cfInfo ?_)
      | ((with_reducible refine at_slot 24 ?_); refine wl_call rfl rfl Try.func12 (by kernel_rfl) rfl (cck_yes HC.out _) rfl ?_; intro V2 hb; replace k1 := k1.keep hb; replace HB := Lib.hid (below_tr HB.out hb); clear hb)
      | ((with_reducible refine at_slot 28 ?_); refine wl_call rfl rfl Try.func27 (by kernel_rfl) rfl (of_at (if_pos HT.out) (if_pos HT.out) _) rfl ?_; intro V3 hb; replace k1 := k1.keep hb; replace HB := Lib.hid (below_tr HB.out hb); clear hb)
      | ((with_reducible refine at_slot 33 ?_); refine wl_call rfl rfl Try.func27 (by kernel_rfl) rfl (of_at (if_neg HN.out) (if_neg HN.out) _) rfl ?_; intro V4 hb; replace k1 := k1.keep hb; replace HB := Lib.hid (below_tr HB.out hb); clear hb))
  go_ret
  exact ⟨rfl, HB.out⟩
set_option maxHeartbeats 4000000 in
set_option maxRecDepth 100000 in
theorem nest_old {c : Cf} {t now : Int} (h : CfOk c) (ht : TimeOk t ∧ WidthOk 1) (hn : TimeOk now ∧ WidthOk 1) (ho : max (max (c.w0 * c.n0) (c.w1 * c.n1)) (c.w2 * c.n2) ≤ now - t) (w : World) : Calls Try.prog 5 #[.agg (cfA c), .int .i64 t, .int .i64 now] w fun e w' => e = .returned (.bool true) ∧ Below w.heap.size w w' := by
  obtain ⟨⟨k0, s0⟩, ⟨k1, s1⟩, k2, s2⟩ := h.1.1
  obtain ⟨⟨m1, j1⟩, m2, j2⟩ := h.1.2
  have HR := Lib.hid (fun w1 => ret_yes h w1)
  obtain ⟨r, hr⟩ : ∃ r, r = max (max (c.w0 * c.n0) (c.w1 * c.n1)) (c.w2 * c.n2) := ⟨_, rfl⟩
  rw [← hr] at HR ho
  have G0 := Lib.hid (old_gone ht.1 hn.1 k0 s0 (show c.w0 * c.n0 ≤ now - t by omega))
  have G1 := Lib.hid (old_gone ht.1 hn.1 k1 s1 (show c.w1 * c.n1 ≤ now - t by omega))
  have G2 := Lib.hid (old_gone ht.1 hn.1 k2 s2 (show c.w2 * c.n2 ≤ now - t by omega))
  clear hr
  have dg : decide (r ≤ now - t) = true := by simp; omega
  have HF1 := Lib.hid (fun w1 => fac_1 h w1)
  have u1 := fac_pos k0.1 k1.1 m1
  have v1 : c.w1 / c.w0 ≤ 1099511627776 := by have := k1.2; have := Int.ediv_le_self (c.w0) (show 0 ≤ c.w1 by have := k1.1; omega); omega
  have E1 := nest_div (t := t) k0.1 m1
  have B1 := Lib.hid (beg_at5 hn.1 k1)
  have N1 := Lib.hid (nest_kept hn.1 k0 k1 s0 m1 j1)
  generalize c.w1 / c.w0 = f1 at HF1 u1 v1 E1
  have HF2 := Lib.hid (fun w1 => fac_2 h w1)
  have u2 := fac_pos k1.1 k2.1 m2
  have v2 : c.w2 / c.w1 ≤ 1099511627776 := by have := k2.2; have := Int.ediv_le_self (c.w1) (show 0 ≤ c.w2 by have := k2.1; omega); omega
  have E2 := nest_div (t := t) k1.1 m2
  have B2 := Lib.hid (beg_at5 hn.1 k2)
  have N2 := Lib.hid (nest_kept hn.1 k1 k2 s1 m2 j2)
  generalize c.w2 / c.w1 = f2 at HF2 u2 v2 E2
  have O0 := Lib.hid (show TimeOk t ∧ WidthOk c.w0 from ⟨ht.1, k0⟩)
  have P0 := Lib.hid (show TimeOk now ∧ WidthOk c.w0 from ⟨hn.1, k0⟩)
  obtain ⟨x0, y0⟩ := quo_bd O0.out
  have O1 := Lib.hid (show TimeOk t ∧ WidthOk c.w1 from ⟨ht.1, k1⟩)
  have P1 := Lib.hid (show TimeOk now ∧ WidthOk c.w1 from ⟨hn.1, k1⟩)
  obtain ⟨x1, y1⟩ := quo_bd O1.out
  have O2 := Lib.hid (show TimeOk t ∧ WidthOk c.w2 from ⟨ht.1, k2⟩)
  have P2 := Lib.hid (show TimeOk now ∧ WidthOk c.w2 from ⟨hn.1, k2⟩)
  obtain ⟨x2, y2⟩ := quo_bd O2.out
  have HC := Lib.hid h
  have HT := Lib.hid ht
  have HN := Lib.hid hn
  obtain ⟨⟨t0, t1⟩, _⟩ := ht
  obtain ⟨⟨n0, n1⟩, _⟩ := hn
  obtain ⟨q0, hq0⟩ : ∃ q, q = t / c.w0 := ⟨_, rfl⟩
  obtain ⟨q1, hq1⟩ : ∃ q, q = t / c.w1 := ⟨_, rfl⟩
  obtain ⟨q2, hq2⟩ : ∃ q, q = t / c.w2 := ⟨_, rfl⟩
  rw [← hq0, ← hq1] at E1
  rw [← hq1, ← hq2] at E2
  rw [← hq0] at x0 y0
  rw [← hq1] at x1 y1
  rw [← hq2] at x2 y2
  have Q0 : Hid (ofI t c.w0 = q0 ∧ ofE t c.w0 = 0) := Lib.hid ⟨by rw [hq0]; exact if_pos O0.out, if_pos O0.out⟩
  have Q1 : Hid (ofI t c.w1 = q1 ∧ ofE t c.w1 = 0) := Lib.hid ⟨by rw [hq1]; exact if_pos O1.out, if_pos O1.out⟩
  have Q2 : Hid (ofI t c.w2 = q2 ∧ ofE t c.w2 = 0) := Lib.hid ⟨by rw [hq2]; exact if_pos O2.out, if_pos O2.out⟩
  clear hq0 hq1 hq2 h k0 k1 k2 s0 s1 s2 m1 m2 j1 j2
  have c11 : (q0.tdiv f1) = q1 := by rw [Int.tdiv_eq_ediv_of_nonneg x0]; exact E1
  have c12 : IntKind.i64.wrap q1 = q1 := by rw [IntKind.wrap_i64]; omega
  have c13 : ¬ f1 = 0 := by omega
  have c14 : decide (f1 < 1) = false := by simp; omega
  have c21 : (q1.tdiv f2) = q2 := by rw [Int.tdiv_eq_ediv_of_nonneg x1]; exact E2
  have c22 : IntKind.i64.wrap q2 = q2 := by rw [IntKind.wrap_i64]; omega
  have c23 : ¬ f2 = 0 := by omega
  have c24 : decide (f2 < 1) = false := by simp; omega
  have z0 : IntKind.i64.wrap 0 = 0 := by decide
  have z1 : IntKind.i64.wrap 1 = 1 := by decide
  have i9 : IntKind.i64.wrap (now - t) = now - t := by rw [IntKind.wrap_i64]; omega
  
  have HB := Lib.hid (Below.refl w.heap.size w)
  go_enter Try.func5, Try.ntmps5
  go_wp2_with (first
      | ((with_reducible refine at_slot 3 ?_); refine wl_box (A := (cfA c)) rfl rfl rfl ?_; intro W1 g1 k1 hb hle; have L1 := Lib.hid (Nat.le_trans HB.out.size hle); replace HB := Lib.hid (below_tr HB.out hb); clear hb hle)
      | ((with_reducible refine at_slot 21 ?_); refine wl_call rfl rfl Try.func26 (by kernel_rfl) rfl (begins5_any _) rfl ?_; intro V1 hb; replace k1 := k1.keep hb; replace HB := Lib.hid (below_tr HB.out hb); clear hb)
      | ((with_reducible refine at_slot 23 ?_); refine wl_ld0 rfl rfl rfl k1 Try.underlying25 rfl cfInfo ?_)
      | ((with_reducible refine at_slot 24 ?_); refine wl_call rfl rfl Try.func12 (by kernel_rfl) rfl (cck_yes HC.out _) rfl ?_; intro V2 hb; replace k1 := k1.keep hb; replace HB := Lib.hid (below_tr HB.out hb); clear hb)
      | ((with_reducible refine at_slot 28 ?_); refine wl_call rfl rfl Try.func27 (by kernel_rfl) rfl (of_at (if_pos HT.out) (if_pos HT.out) _) rfl ?_; intro V3 hb; replace k1 := k1.keep hb; replace HB := Lib.hid (below_tr HB.out hb); clear hb)
      | ((with_reducible refine at_slot 33 ?_); refine wl_call rfl rfl Try.func27 (by kernel_rfl) rfl (of_at (if_pos HN.out) (if_pos HN.out) _) rfl ?_; intro V4 hb; replace k1 := k1.keep hb; replace HB := Lib.hid (below_tr HB.out hb); clear hb))
  refine wp_loop_rounds 4 ?_
  rw [rounds_succ]
  go_wp2_with fail
  refine wp_region_held_drew (S := fun w' => Blk w' g1 25 (cfA c) ∧ Below w.heap.size w w') (by kernel_rfl) ⟨k1.drew, HB.out.drew⟩ (fun hS => ?_)
  clear k1
  have hS2 := hS
  obtain ⟨k1, hB⟩ := hS2
  replace HB := Lib.hid hB
  clear hB
  refine wpAnyH_take (i := 0) (oi := ⟨some 55, _, _, _, _, _⟩) (v := .int .i64 now) rfl (by kernel_rfl) (by kernel_rfl) (by kernel_rfl) (fun _ _ _ h => h) (yi_mv (Or.inl rfl) rfl rfl) hS ?_
  simp only [Act.put, List.setIfInBounds_toArray, List.set_cons_zero, List.set_cons_succ]
  refine wpAnyH_take (i := 1) (oi := ⟨some 56, _, _, _, _, _⟩) (v := .int .i64 t) rfl (by kernel_rfl) (by kernel_rfl) (by kernel_rfl) (fun _ _ _ h => h) (yi_mv (Or.inl rfl) rfl rfl) hS ?_
  simp only [Act.put, List.setIfInBounds_toArray, List.set_cons_zero, List.set_cons_succ]
  refine wpAnyH_take (i := 2) (oi := ⟨some 57, _, _, _, _, _⟩) (v := .int .i64 (now - t)) rfl (by kernel_rfl) (by kernel_rfl) (by kernel_rfl) (fun _ _ _ h => h) (yi_ok rfl (fun _ => by go_simp)) hS ?_
  simp only [Act.put, List.setIfInBounds_toArray, List.set_cons_zero, List.set_cons_succ]
  refine wpAnyH_take (i := 3) (oi := ⟨some 58, _, _, _, _, _⟩) (v := .agg (cfA c)) rfl (by kernel_rfl) (by kernel_rfl) (by kernel_rfl) (fun _ _ _ h => h) (yi_ld0 rfl rfl rfl (fun w' h => h.1) Try.underlying25 rfl cfInfo) hS ?_
  simp only [Act.put, List.setIfInBounds_toArray, List.set_cons_zero, List.set_cons_succ]
  refine anyH_call (i := 4) (op := ⟨some 59, _, _, _, _, _⟩) (by kernel_rfl) rfl rfl rfl Try.func24 (by kernel_rfl) rfl (HR.out _) rfl (fun w' hb => ⟨k1.keep hb, below_tr HB.out hb⟩) (fun w' hb hS2 => ?_)
  simp only [Act.put, List.setIfInBounds_toArray, List.set_cons_zero, List.set_cons_succ]
  clear hb
  replace hS := hS2
  clear hS2
  clear k1
  have hS2 := hS
  obtain ⟨k1, hB⟩ := hS2
  replace HB := Lib.hid hB
  clear hB
  refine wpAnyH_take (i := 5) (oi := ⟨some 60, _, _, _, _, _⟩) (v := .bool true) rfl (by kernel_rfl) (by kernel_rfl) (by kernel_rfl) (fun _ _ _ h => h) (yi_ok rfl (fun _ => by go_simp)) hS ?_
  simp only [Act.put, List.setIfInBounds_toArray, List.set_cons_zero, List.set_cons_succ]
  refine wpAnyH_take (i := 6) (oi := ⟨some 61, _, _, _, _, _⟩) (v := .bool true) rfl (by kernel_rfl) (by kernel_rfl) (by kernel_rfl) (fun _ _ _ h => h) (yi_mv (Or.inl rfl) rfl rfl) hS ?_
  simp only [Act.put, List.setIfInBounds_toArray, List.set_cons_zero, List.set_cons_succ]
  refine wpAnyH_take (i := 7) (oi := ⟨some 62, _, _, _, _, _⟩) (v := .int .i64 t) rfl (by kernel_rfl) (by kernel_rfl) (by kernel_rfl) (fun _ _ _ h => h) (yi_mv (Or.inl rfl) (by kernel_rfl) rfl) hS ?_
  simp only [Act.put, List.setIfInBounds_toArray, List.set_cons_zero, List.set_cons_succ]
  refine wpAnyH_take (i := 8) (oi := ⟨some 63, _, _, _, _, _⟩) (v := .int .i64 now) rfl (by kernel_rfl) (by kernel_rfl) (by kernel_rfl) (fun _ _ _ h => h) (yi_mv (Or.inl rfl) (by kernel_rfl) rfl) hS ?_
  simp only [Act.put, List.setIfInBounds_toArray, List.set_cons_zero, List.set_cons_succ]
  refine wpAnyH_take (i := 9) (oi := ⟨some 64, _, _, _, _, _⟩) (v := .int .i64 0) rfl (by kernel_rfl) (by kernel_rfl) (by kernel_rfl) (fun _ _ _ h => h) (yi_mv (Or.inl rfl) (by kernel_rfl) rfl) hS ?_
  simp only [Act.put, List.setIfInBounds_toArray, List.set_cons_zero, List.set_cons_succ]
  refine wpAnyH_take (i := 10) (oi := ⟨some 65, _, _, _, _, _⟩) (v := .pointer (some ⟨g1, 1, none⟩)) rfl (by kernel_rfl) (by kernel_rfl) (by kernel_rfl) (fun _ _ _ h => h) (yi_ok (by kernel_rfl) (fun _ => by go_simp)) hS ?_
  simp only [Act.put, List.setIfInBounds_toArray, List.set_cons_zero, List.set_cons_succ]
  refine wpAnyH_take (i := 11) (oi := ⟨some 66, _, _, _, _, _⟩) (v := .pointer (some ⟨g1, 1, none⟩)) rfl (by kernel_rfl) (by kernel_rfl) (by kernel_rfl) (fun _ _ _ h => h) (yi_ok (by kernel_rfl) (fun _ => by go_simp)) hS ?_
  simp only [Act.put, List.setIfInBounds_toArray, List.set_cons_zero, List.set_cons_succ]
  refine wpAnyH_take (i := 12) (oi := ⟨some 67, _, _, _, _, _⟩) (v := .int .i64 c.w0) rfl (by kernel_rfl) (by kernel_rfl) (by kernel_rfl) (fun _ _ _ h => h) (yi_ld1 (v := .int .i64 c.w0) rfl (by kernel_rfl) rfl (fun w' h => h.1) Try.underlying2 rfl rfl) hS ?_
  simp only [Act.put, List.setIfInBounds_toArray, List.set_cons_zero, List.set_cons_succ]
  refine wpAnyH_take (i := 13) (oi := ⟨some 68, _, _, _, _, _⟩) (v := .int .i64 0) rfl (by kernel_rfl) (by kernel_rfl) (by kernel_rfl) (fun _ _ _ h => h) (yi_mv (Or.inl rfl) (by kernel_rfl) rfl) hS ?_
  simp only [Act.put, List.setIfInBounds_toArray, List.set_cons_zero, List.set_cons_succ]
  refine wpAnyH_take (i := 14) (oi := ⟨some 69, _, _, _, _, _⟩) (v := .pointer (some ⟨g1, 4, none⟩)) rfl (by kernel_rfl) (by kernel_rfl) (by kernel_rfl) (fun _ _ _ h => h) (yi_ok (by kernel_rfl) (fun _ => by go_simp)) hS ?_
  simp only [Act.put, List.setIfInBounds_toArray, List.set_cons_zero, List.set_cons_succ]
  refine wpAnyH_take (i := 15) (oi := ⟨some 70, _, _, _, _, _⟩) (v := .pointer (some ⟨g1, 4, none⟩)) rfl (by kernel_rfl) (by kernel_rfl) (by kernel_rfl) (fun _ _ _ h => h) (yi_ok (by kernel_rfl) (fun _ => by go_simp)) hS ?_
  simp only [Act.put, List.setIfInBounds_toArray, List.set_cons_zero, List.set_cons_succ]
  refine wpAnyH_take (i := 16) (oi := ⟨some 71, _, _, _, _, _⟩) (v := .int .i64 c.n0) rfl (by kernel_rfl) (by kernel_rfl) (by kernel_rfl) (fun _ _ _ h => h) (yi_ld1 (v := .int .i64 c.n0) rfl (by kernel_rfl) rfl (fun w' h => h.1) Try.underlying3 rfl rfl) hS ?_
  simp only [Act.put, List.setIfInBounds_toArray, List.set_cons_zero, List.set_cons_succ]
  refine anyH_call (i := 17) (op := ⟨some 72, _, _, _, _, _⟩) (by kernel_rfl) rfl rfl (by kernel_rfl) Try.func28 (by kernel_rfl) rfl (gone_at G0.out _) rfl (fun w' hb => ⟨k1.keep hb, below_tr HB.out hb⟩) (fun w' hb hS2 => ?_)
  simp only [Act.put, List.setIfInBounds_toArray, List.set_cons_zero, List.set_cons_succ]
  clear hb
  replace hS := hS2
  clear hS2
  clear k1
  have hS2 := hS
  obtain ⟨k1, hB⟩ := hS2
  replace HB := Lib.hid hB
  clear hB
  refine wpAnyH_take (i := 18) (oi := ⟨some 73, _, _, _, _, _⟩) (v := .bool false) rfl (by kernel_rfl) (by kernel_rfl) (by kernel_rfl) (fun _ _ _ h => h) (yi_not rfl (by kernel_rfl) rfl rfl) hS ?_
  simp only [Act.put, List.setIfInBounds_toArray, List.set_cons_zero, List.set_cons_succ]
  refine wpAnyH_take (i := 19) (oi := ⟨some 74, _, _, _, _, _⟩) (v := .bool false) rfl (by kernel_rfl) (by kernel_rfl) (by kernel_rfl) (fun _ _ _ h => h) (yi_pick1 rfl rfl rfl rfl) hS ?_
  simp only [Act.put, List.setIfInBounds_toArray, List.set_cons_zero, List.set_cons_succ]
  refine wpAnyH_done (by kernel_rfl) ?_ _
  clear hS
  go_wp2_with fail
  rw [rounds_succ]
  go_wp2_with fail
  refine wp_region_held_drew (S := fun w' => Blk w' g1 25 (cfA c) ∧ Below w.heap.size w w') (by kernel_rfl) ⟨k1.drew, HB.out.drew⟩ (fun hS => ?_)
  clear k1
  have hS2 := hS
  obtain ⟨k1, hB⟩ := hS2
  replace HB := Lib.hid hB
  clear hB
  refine wpAnyH_take (i := 0) (oi := ⟨some 55, _, _, _, _, _⟩) (v := .int .i64 now) rfl (by kernel_rfl) (by kernel_rfl) (by kernel_rfl) (fun _ _ _ h => h) (yi_mv (Or.inl rfl) rfl rfl) hS ?_
  simp only [Act.put, List.setIfInBounds_toArray, List.set_cons_zero, List.set_cons_succ]
  refine wpAnyH_take (i := 1) (oi := ⟨some 56, _, _, _, _, _⟩) (v := .int .i64 t) rfl (by kernel_rfl) (by kernel_rfl) (by kernel_rfl) (fun _ _ _ h => h) (yi_mv (Or.inl rfl) rfl rfl) hS ?_
  simp only [Act.put, List.setIfInBounds_toArray, List.set_cons_zero, List.set_cons_succ]
  refine wpAnyH_take (i := 2) (oi := ⟨some 57, _, _, _, _, _⟩) (v := .int .i64 (now - t)) rfl (by kernel_rfl) (by kernel_rfl) (by kernel_rfl) (fun _ _ _ h => h) (yi_ok rfl (fun _ => by go_simp)) hS ?_
  simp only [Act.put, List.setIfInBounds_toArray, List.set_cons_zero, List.set_cons_succ]
  refine wpAnyH_take (i := 3) (oi := ⟨some 58, _, _, _, _, _⟩) (v := .agg (cfA c)) rfl (by kernel_rfl) (by kernel_rfl) (by kernel_rfl) (fun _ _ _ h => h) (yi_ld0 rfl rfl rfl (fun w' h => h.1) Try.underlying25 rfl cfInfo) hS ?_
  simp only [Act.put, List.setIfInBounds_toArray, List.set_cons_zero, List.set_cons_succ]
  refine anyH_call (i := 4) (op := ⟨some 59, _, _, _, _, _⟩) (by kernel_rfl) rfl rfl rfl Try.func24 (by kernel_rfl) rfl (HR.out _) rfl (fun w' hb => ⟨k1.keep hb, below_tr HB.out hb⟩) (fun w' hb hS2 => ?_)
  simp only [Act.put, List.setIfInBounds_toArray, List.set_cons_zero, List.set_cons_succ]
  clear hb
  replace hS := hS2
  clear hS2
  clear k1
  have hS2 := hS
  obtain ⟨k1, hB⟩ := hS2
  replace HB := Lib.hid hB
  clear hB
  refine wpAnyH_take (i := 5) (oi := ⟨some 60, _, _, _, _, _⟩) (v := .bool true) rfl (by kernel_rfl) (by kernel_rfl) (by kernel_rfl) (fun _ _ _ h => h) (yi_ok rfl (fun _ => by go_simp)) hS ?_
  simp only [Act.put, List.setIfInBounds_toArray, List.set_cons_zero, List.set_cons_succ]
  refine wpAnyH_take (i := 6) (oi := ⟨some 61, _, _, _, _, _⟩) (v := .bool true) rfl (by kernel_rfl) (by kernel_rfl) (by kernel_rfl) (fun _ _ _ h => h) (yi_mv (Or.inl rfl) rfl rfl) hS ?_
  simp only [Act.put, List.setIfInBounds_toArray, List.set_cons_zero, List.set_cons_succ]
  refine wpAnyH_take (i := 7) (oi := ⟨some 62, _, _, _, _, _⟩) (v := .int .i64 t) rfl (by kernel_rfl) (by kernel_rfl) (by kernel_rfl) (fun _ _ _ h => h) (yi_mv (Or.inl rfl) (by kernel_rfl) rfl) hS ?_
  simp only [Act.put, List.setIfInBounds_toArray, List.set_cons_zero, List.set_cons_succ]
  refine wpAnyH_take (i := 8) (oi := ⟨some 63, _, _, _, _, _⟩) (v := .int .i64 now) rfl (by kernel_rfl) (by kernel_rfl) (by kernel_rfl) (fun _ _ _ h => h) (yi_mv (Or.inl rfl) (by kernel_rfl) rfl) hS ?_
  simp only [Act.put, List.setIfInBounds_toArray, List.set_cons_zero, List.set_cons_succ]
  refine wpAnyH_take (i := 9) (oi := ⟨some 64, _, _, _, _, _⟩) (v := .int .i64 1) rfl (by kernel_rfl) (by kernel_rfl) (by kernel_rfl) (fun _ _ _ h => h) (yi_mv (Or.inl rfl) (by kernel_rfl) rfl) hS ?_
  simp only [Act.put, List.setIfInBounds_toArray, List.set_cons_zero, List.set_cons_succ]
  refine wpAnyH_take (i := 10) (oi := ⟨some 65, _, _, _, _, _⟩) (v := .pointer (some ⟨g1, 1, none⟩)) rfl (by kernel_rfl) (by kernel_rfl) (by kernel_rfl) (fun _ _ _ h => h) (yi_ok (by kernel_rfl) (fun _ => by go_simp)) hS ?_
  simp only [Act.put, List.setIfInBounds_toArray, List.set_cons_zero, List.set_cons_succ]
  refine wpAnyH_take (i := 11) (oi := ⟨some 66, _, _, _, _, _⟩) (v := .pointer (some ⟨g1, 2, none⟩)) rfl (by kernel_rfl) (by kernel_rfl) (by kernel_rfl) (fun _ _ _ h => h) (yi_ok (by kernel_rfl) (fun _ => by go_simp)) hS ?_
  simp only [Act.put, List.setIfInBounds_toArray, List.set_cons_zero, List.set_cons_succ]
  refine wpAnyH_take (i := 12) (oi := ⟨some 67, _, _, _, _, _⟩) (v := .int .i64 c.w1) rfl (by kernel_rfl) (by kernel_rfl) (by kernel_rfl) (fun _ _ _ h => h) (yi_ld1 (v := .int .i64 c.w1) rfl (by kernel_rfl) rfl (fun w' h => h.1) Try.underlying2 rfl rfl) hS ?_
  simp only [Act.put, List.setIfInBounds_toArray, List.set_cons_zero, List.set_cons_succ]
  refine wpAnyH_take (i := 13) (oi := ⟨some 68, _, _, _, _, _⟩) (v := .int .i64 1) rfl (by kernel_rfl) (by kernel_rfl) (by kernel_rfl) (fun _ _ _ h => h) (yi_mv (Or.inl rfl) (by kernel_rfl) rfl) hS ?_
  simp only [Act.put, List.setIfInBounds_toArray, List.set_cons_zero, List.set_cons_succ]
  refine wpAnyH_take (i := 14) (oi := ⟨some 69, _, _, _, _, _⟩) (v := .pointer (some ⟨g1, 4, none⟩)) rfl (by kernel_rfl) (by kernel_rfl) (by kernel_rfl) (fun _ _ _ h => h) (yi_ok (by kernel_rfl) (fun _ => by go_simp)) hS ?_
  simp only [Act.put, List.setIfInBounds_toArray, List.set_cons_zero, List.set_cons_succ]
  refine wpAnyH_take (i := 15) (oi := ⟨some 70, _, _, _, _, _⟩) (v := .pointer (some ⟨g1, 5, none⟩)) rfl (by kernel_rfl) (by kernel_rfl) (by kernel_rfl) (fun _ _ _ h => h) (yi_ok (by kernel_rfl) (fun _ => by go_simp)) hS ?_
  simp only [Act.put, List.setIfInBounds_toArray, List.set_cons_zero, List.set_cons_succ]
  refine wpAnyH_take (i := 16) (oi := ⟨some 71, _, _, _, _, _⟩) (v := .int .i64 c.n1) rfl (by kernel_rfl) (by kernel_rfl) (by kernel_rfl) (fun _ _ _ h => h) (yi_ld1 (v := .int .i64 c.n1) rfl (by kernel_rfl) rfl (fun w' h => h.1) Try.underlying3 rfl rfl) hS ?_
  simp only [Act.put, List.setIfInBounds_toArray, List.set_cons_zero, List.set_cons_succ]
  refine anyH_call (i := 17) (op := ⟨some 72, _, _, _, _, _⟩) (by kernel_rfl) rfl rfl (by kernel_rfl) Try.func28 (by kernel_rfl) rfl (gone_at G1.out _) rfl (fun w' hb => ⟨k1.keep hb, below_tr HB.out hb⟩) (fun w' hb hS2 => ?_)
  simp only [Act.put, List.setIfInBounds_toArray, List.set_cons_zero, List.set_cons_succ]
  clear hb
  replace hS := hS2
  clear hS2
  clear k1
  have hS2 := hS
  obtain ⟨k1, hB⟩ := hS2
  replace HB := Lib.hid hB
  clear hB
  refine wpAnyH_take (i := 18) (oi := ⟨some 73, _, _, _, _, _⟩) (v := .bool false) rfl (by kernel_rfl) (by kernel_rfl) (by kernel_rfl) (fun _ _ _ h => h) (yi_not rfl (by kernel_rfl) rfl rfl) hS ?_
  simp only [Act.put, List.setIfInBounds_toArray, List.set_cons_zero, List.set_cons_succ]
  refine wpAnyH_take (i := 19) (oi := ⟨some 74, _, _, _, _, _⟩) (v := .bool false) rfl (by kernel_rfl) (by kernel_rfl) (by kernel_rfl) (fun _ _ _ h => h) (yi_pick1 rfl rfl rfl rfl) hS ?_
  simp only [Act.put, List.setIfInBounds_toArray, List.set_cons_zero, List.set_cons_succ]
  refine wpAnyH_done (by kernel_rfl) ?_ _
  clear hS
  go_wp2_with (first
      | ((with_reducible refine at_slot 77 ?_); refine wl_ld0 rfl rfl rfl k1 Try.underlying25 rfl cfInfo ?_)
      | ((with_reducible refine at_slot 79 ?_); refine wl_call rfl rfl Try.func14 (by kernel_rfl) rfl (HF1.out _) rfl ?_; intro V7 hb; replace k1 := k1.keep hb; replace HB := Lib.hid (below_tr HB.out hb); clear hb)
      | ((with_reducible refine at_slot 87 ?_); refine wl_ld1 (v := .int .i64 c.w1) rfl rfl rfl k1 Try.underlying2 rfl rfl ?_)
      | ((with_reducible refine at_slot 88 ?_); refine wl_call rfl rfl Try.func27 (by kernel_rfl) rfl (of_at Q1.out.1 Q1.out.2 _) rfl ?_; intro V8 hb; replace k1 := k1.keep hb; replace HB := Lib.hid (below_tr HB.out hb); clear hb)
      | ((with_reducible refine at_slot 97 ?_); refine wl_ld1 (v := .int .i64 c.w0) rfl rfl rfl k1 Try.underlying2 rfl rfl ?_)
      | ((with_reducible refine at_slot 98 ?_); refine wl_call rfl rfl Try.func27 (by kernel_rfl) rfl (of_at Q0.out.1 Q0.out.2 _) rfl ?_; intro V9 hb; replace k1 := k1.keep hb; replace HB := Lib.hid (below_tr HB.out hb); clear hb)
      | ((with_reducible refine at_slot 106 ?_); refine wl_ld1 (v := .int .i64 c.w1) rfl rfl rfl k1 Try.underlying2 rfl rfl ?_)
      | ((with_reducible refine at_slot 107 ?_); refine wl_call rfl rfl Try.func27 (by kernel_rfl) rfl (of_at (if_pos P1.out) (if_pos P1.out) _) rfl ?_; intro V10 hb; replace k1 := k1.keep hb; replace HB := Lib.hid (below_tr HB.out hb); clear hb)
      | ((with_reducible refine at_slot 115 ?_); refine wl_ld1 (v := .int .i64 c.w1) rfl rfl rfl k1 Try.underlying2 rfl rfl ?_)
      | ((with_reducible refine at_slot 116 ?_); refine wl_call rfl rfl Try.func29 (by kernel_rfl) rfl (beg9_at (if_pos B1.out) (if_pos B1.out) _) rfl ?_; intro V11 hb; replace k1 := k1.keep hb; replace HB := Lib.hid (below_tr HB.out hb); clear hb))
  refine wp_region_held_drew (S := fun w' => Blk w' g1 25 (cfA c) ∧ Below w.heap.size w w') (by kernel_rfl) ⟨k1.drew, HB.out.drew⟩ (fun hS => ?_)
  clear k1
  have hS2 := hS
  obtain ⟨k1, hB⟩ := hS2
  replace HB := Lib.hid hB
  clear hB
  refine wpAnyH_take (i := 0) (oi := ⟨some 119, _, _, _, _, _⟩) (v := .int .i64 0) rfl (by kernel_rfl) (by kernel_rfl) (by kernel_rfl) (fun _ _ _ h => h) (yi_mv (Or.inl rfl) rfl rfl) hS ?_
  simp only [Act.put, List.setIfInBounds_toArray, List.set_cons_zero, List.set_cons_succ]
  refine wpAnyH_take (i := 1) (oi := ⟨some 120, _, _, _, _, _⟩) (v := .bool false) rfl (by kernel_rfl) (by kernel_rfl) (by kernel_rfl) (fun _ _ _ h => h) (yi_ok rfl (fun _ => by go_simp)) hS ?_
  simp only [Act.put, List.setIfInBounds_toArray, List.set_cons_zero, List.set_cons_succ]
  refine wpAnyH_take (i := 2) (oi := ⟨some 121, _, _, _, _, _⟩) (v := .bool false) rfl (by kernel_rfl) (by kernel_rfl) (by kernel_rfl) (fun _ _ _ h => h) (yi_mv (Or.inl rfl) rfl rfl) hS ?_
  simp only [Act.put, List.setIfInBounds_toArray, List.set_cons_zero, List.set_cons_succ]
  refine wpAnyH_take (i := 3) (oi := ⟨some 122, _, _, _, _, _⟩) (v := .int .i64 0) rfl (by kernel_rfl) (by kernel_rfl) (by kernel_rfl) (fun _ _ _ h => h) (yi_mv (Or.inl rfl) (by kernel_rfl) rfl) hS ?_
  simp only [Act.put, List.setIfInBounds_toArray, List.set_cons_zero, List.set_cons_succ]
  refine wpAnyH_take (i := 4) (oi := ⟨some 123, _, _, _, _, _⟩) (v := .bool false) rfl (by kernel_rfl) (by kernel_rfl) (by kernel_rfl) (fun _ _ _ h => h) (yi_ok (by kernel_rfl) (fun _ => by go_simp)) hS ?_
  simp only [Act.put, List.setIfInBounds_toArray, List.set_cons_zero, List.set_cons_succ]
  refine wpAnyH_take (i := 5) (oi := ⟨some 124, _, _, _, _, _⟩) (v := .bool false) rfl (by kernel_rfl) (by kernel_rfl) (by kernel_rfl) (fun _ _ _ h => h) (yi_pick0 rfl rfl rfl rfl) hS ?_
  simp only [Act.put, List.setIfInBounds_toArray, List.set_cons_zero, List.set_cons_succ]
  refine wpAnyH_take (i := 6) (oi := ⟨some 125, _, _, _, _, _⟩) (v := .bool false) rfl (by kernel_rfl) (by kernel_rfl) (by kernel_rfl) (fun _ _ _ h => h) (yi_mv (Or.inl rfl) rfl rfl) hS ?_
  simp only [Act.put, List.setIfInBounds_toArray, List.set_cons_zero, List.set_cons_succ]
  refine wpAnyH_take (i := 7) (oi := ⟨some 126, _, _, _, _, _⟩) (v := .int .i64 0) rfl (by kernel_rfl) (by kernel_rfl) (by kernel_rfl) (fun _ _ _ h => h) (yi_mv (Or.inl rfl) (by kernel_rfl) rfl) hS ?_
  simp only [Act.put, List.setIfInBounds_toArray, List.set_cons_zero, List.set_cons_succ]
  refine wpAnyH_take (i := 8) (oi := ⟨some 127, _, _, _, _, _⟩) (v := .bool false) rfl (by kernel_rfl) (by kernel_rfl) (by kernel_rfl) (fun _ _ _ h => h) (yi_ok (by kernel_rfl) (fun _ => by go_simp)) hS ?_
  simp only [Act.put, List.setIfInBounds_toArray, List.set_cons_zero, List.set_cons_succ]
  refine wpAnyH_take (i := 9) (oi := ⟨some 128, _, _, _, _, _⟩) (v := .bool false) rfl (by kernel_rfl) (by kernel_rfl) (by kernel_rfl) (fun _ _ _ h => h) (yi_pick0 rfl rfl rfl rfl) hS ?_
  simp only [Act.put, List.setIfInBounds_toArray, List.set_cons_zero, List.set_cons_succ]
  refine wpAnyH_take (i := 10) (oi := ⟨some 129, _, _, _, _, _⟩) (v := .bool false) rfl (by kernel_rfl) (by kernel_rfl) (by kernel_rfl) (fun _ _ _ h => h) (yi_mv (Or.inl rfl) rfl rfl) hS ?_
  simp only [Act.put, List.setIfInBounds_toArray, List.set_cons_zero, List.set_cons_succ]
  refine wpAnyH_take (i := 11) (oi := ⟨some 130, _, _, _, _, _⟩) (v := .int .i64 0) rfl (by kernel_rfl) (by kernel_rfl) (by kernel_rfl) (fun _ _ _ h => h) (yi_mv (Or.inl rfl) (by kernel_rfl) rfl) hS ?_
  simp only [Act.put, List.setIfInBounds_toArray, List.set_cons_zero, List.set_cons_succ]
  refine wpAnyH_take (i := 12) (oi := ⟨some 131, _, _, _, _, _⟩) (v := .bool false) rfl (by kernel_rfl) (by kernel_rfl) (by kernel_rfl) (fun _ _ _ h => h) (yi_ok (by kernel_rfl) (fun _ => by go_simp)) hS ?_
  simp only [Act.put, List.setIfInBounds_toArray, List.set_cons_zero, List.set_cons_succ]
  refine wpAnyH_take (i := 13) (oi := ⟨some 132, _, _, _, _, _⟩) (v := .bool false) rfl (by kernel_rfl) (by kernel_rfl) (by kernel_rfl) (fun _ _ _ h => h) (yi_pick0 rfl rfl rfl rfl) hS ?_
  simp only [Act.put, List.setIfInBounds_toArray, List.set_cons_zero, List.set_cons_succ]
  refine wpAnyH_take (i := 14) (oi := ⟨some 133, _, _, _, _, _⟩) (v := .bool false) rfl (by kernel_rfl) (by kernel_rfl) (by kernel_rfl) (fun _ _ _ h => h) (yi_mv (Or.inl rfl) rfl rfl) hS ?_
  simp only [Act.put, List.setIfInBounds_toArray, List.set_cons_zero, List.set_cons_succ]
  refine wpAnyH_take (i := 15) (oi := ⟨some 134, _, _, _, _, _⟩) (v := .int .i64 q0) rfl (by kernel_rfl) (by kernel_rfl) (by kernel_rfl) (fun _ _ _ h => h) (yi_mv (Or.inl rfl) (by kernel_rfl) rfl) hS ?_
  simp only [Act.put, List.setIfInBounds_toArray, List.set_cons_zero, List.set_cons_succ]
  refine wpAnyH_take (i := 16) (oi := ⟨some 135, _, _, _, _, _⟩) (v := .int .i64 f1) rfl (by kernel_rfl) (by kernel_rfl) (by kernel_rfl) (fun _ _ _ h => h) (yi_mv (Or.inl rfl) (by kernel_rfl) rfl) hS ?_
  simp only [Act.put, List.setIfInBounds_toArray, List.set_cons_zero, List.set_cons_succ]
  refine wpAnyH_take (i := 17) (oi := ⟨some 136, _, _, _, _, _⟩) (v := .int .i64 q1) rfl (by kernel_rfl) (by kernel_rfl) (by kernel_rfl) (fun _ _ _ h => h) (yi_ok (by kernel_rfl) (fun _ => by go_simp)) hS ?_
  simp only [Act.put, List.setIfInBounds_toArray, List.set_cons_zero, List.set_cons_succ]
  refine wpAnyH_take (i := 18) (oi := ⟨some 137, _, _, _, _, _⟩) (v := .int .i64 q1) rfl (by kernel_rfl) (by kernel_rfl) (by kernel_rfl) (fun _ _ _ h => h) (yi_mv (Or.inl rfl) (by kernel_rfl) rfl) hS ?_
  simp only [Act.put, List.setIfInBounds_toArray, List.set_cons_zero, List.set_cons_succ]
  refine wpAnyH_take (i := 19) (oi := ⟨some 138, _, _, _, _, _⟩) (v := .bool false) rfl (by kernel_rfl) (by kernel_rfl) (by kernel_rfl) (fun _ _ _ h => h) (yi_ok (by kernel_rfl) (fun _ => by go_simp)) hS ?_
  simp only [Act.put, List.setIfInBounds_toArray, List.set_cons_zero, List.set_cons_succ]
  refine wpAnyH_take (i := 20) (oi := ⟨some 139, _, _, _, _, _⟩) (v := .bool false) rfl (by kernel_rfl) (by kernel_rfl) (by kernel_rfl) (fun _ _ _ h => h) (yi_pick0 rfl rfl rfl rfl) hS ?_
  simp only [Act.put, List.setIfInBounds_toArray, List.set_cons_zero, List.set_cons_succ]
  refine wpAnyH_take (i := 21) (oi := ⟨some 140, _, _, _, _, _⟩) (v := .bool false) rfl (by kernel_rfl) (by kernel_rfl) (by kernel_rfl) (fun _ _ _ h => h) (yi_mv (Or.inl rfl) rfl rfl) hS ?_
  simp only [Act.put, List.setIfInBounds_toArray, List.set_cons_zero, List.set_cons_succ]
  refine wpAnyH_take (i := 22) (oi := ⟨some 141, _, _, _, _, _⟩) (v := .int .i64 (now / c.w1 * c.w1)) rfl (by kernel_rfl) (by kernel_rfl) (by kernel_rfl) (fun _ _ _ h => h) (yi_mv (Or.inl rfl) (by kernel_rfl) rfl) hS ?_
  simp only [Act.put, List.setIfInBounds_toArray, List.set_cons_zero, List.set_cons_succ]
  refine wpAnyH_take (i := 23) (oi := ⟨some 142, _, _, _, _, _⟩) (v := .int .i64 now) rfl (by kernel_rfl) (by kernel_rfl) (by kernel_rfl) (fun _ _ _ h => h) (yi_mv (Or.inl rfl) (by kernel_rfl) rfl) hS ?_
  simp only [Act.put, List.setIfInBounds_toArray, List.set_cons_zero, List.set_cons_succ]
  refine wpAnyH_take (i := 24) (oi := ⟨some 143, _, _, _, _, _⟩) (v := .int .i64 1) rfl (by kernel_rfl) (by kernel_rfl) (by kernel_rfl) (fun _ _ _ h => h) (yi_mv (Or.inl rfl) (by kernel_rfl) rfl) hS ?_
  simp only [Act.put, List.setIfInBounds_toArray, List.set_cons_zero, List.set_cons_succ]
  refine wpAnyH_take (i := 25) (oi := ⟨some 144, _, _, _, _, _⟩) (v := .int .i64 0) rfl (by kernel_rfl) (by kernel_rfl) (by kernel_rfl) (fun _ _ _ h => h) (yi_ok (by kernel_rfl) (fun _ => by go_simp)) hS ?_
  simp only [Act.put, List.setIfInBounds_toArray, List.set_cons_zero, List.set_cons_succ]
  refine wpAnyH_take (i := 26) (oi := ⟨some 145, _, _, _, _, _⟩) (v := .pointer (some ⟨g1, 1, none⟩)) rfl (by kernel_rfl) (by kernel_rfl) (by kernel_rfl) (fun _ _ _ h => h) (yi_ok (by kernel_rfl) (fun _ => by go_simp)) hS ?_
  simp only [Act.put, List.setIfInBounds_toArray, List.set_cons_zero, List.set_cons_succ]
  refine wpAnyH_take (i := 27) (oi := ⟨some 146, _, _, _, _, _⟩) (v := .pointer (some ⟨g1, 1, none⟩)) rfl (by kernel_rfl) (by kernel_rfl) (by kernel_rfl) (fun _ _ _ h => h) (yi_ok (by kernel_rfl) (fun _ => by go_simp)) hS ?_
  simp only [Act.put, List.setIfInBounds_toArray, List.set_cons_zero, List.set_cons_succ]
  refine wpAnyH_take (i := 28) (oi := ⟨some 147, _, _, _, _, _⟩) (v := .int .i64 c.w0) rfl (by kernel_rfl) (by kernel_rfl) (by kernel_rfl) (fun _ _ _ h => h) (yi_ld1 (v := .int .i64 c.w0) rfl (by kernel_rfl) rfl (fun w' h => h.1) Try.underlying2 rfl rfl) hS ?_
  simp only [Act.put, List.setIfInBounds_toArray, List.set_cons_zero, List.set_cons_succ]
  refine wpAnyH_take (i := 29) (oi := ⟨some 148, _, _, _, _, _⟩) (v := .int .i64 1) rfl (by kernel_rfl) (by kernel_rfl) (by kernel_rfl) (fun _ _ _ h => h) (yi_mv (Or.inl rfl) (by kernel_rfl) rfl) hS ?_
  simp only [Act.put, List.setIfInBounds_toArray, List.set_cons_zero, List.set_cons_succ]
  refine wpAnyH_take (i := 30) (oi := ⟨some 149, _, _, _, _, _⟩) (v := .int .i64 0) rfl (by kernel_rfl) (by kernel_rfl) (by kernel_rfl) (fun _ _ _ h => h) (yi_ok (by kernel_rfl) (fun _ => by go_simp)) hS ?_
  simp only [Act.put, List.setIfInBounds_toArray, List.set_cons_zero, List.set_cons_succ]
  refine wpAnyH_take (i := 31) (oi := ⟨some 150, _, _, _, _, _⟩) (v := .pointer (some ⟨g1, 4, none⟩)) rfl (by kernel_rfl) (by kernel_rfl) (by kernel_rfl) (fun _ _ _ h => h) (yi_ok (by kernel_rfl) (fun _ => by go_simp)) hS ?_
  simp only [Act.put, List.setIfInBounds_toArray, List.set_cons_zero, List.set_cons_succ]
  refine wpAnyH_take (i := 32) (oi := ⟨some 151, _, _, _, _, _⟩) (v := .pointer (some ⟨g1, 4, none⟩)) rfl (by kernel_rfl) (by kernel_rfl) (by kernel_rfl) (fun _ _ _ h => h) (yi_ok (by kernel_rfl) (fun _ => by go_simp)) hS ?_
  simp only [Act.put, List.setIfInBounds_toArray, List.set_cons_zero, List.set_cons_succ]
  refine wpAnyH_take (i := 33) (oi := ⟨some 152, _, _, _, _, _⟩) (v := .int .i64 c.n0) rfl (by kernel_rfl) (by kernel_rfl) (by kernel_rfl) (fun _ _ _ h => h) (yi_ld1 (v := .int .i64 c.n0) rfl (by kernel_rfl) rfl (fun w' h => h.1) Try.underlying3 rfl rfl) hS ?_
  simp only [Act.put, List.setIfInBounds_toArray, List.set_cons_zero, List.set_cons_succ]
  refine anyH_call (i := 34) (op := ⟨some 153, _, _, _, _, _⟩) (by kernel_rfl) rfl rfl (by kernel_rfl) Try.func28 (by kernel_rfl) rfl (gone_at N1.out _) rfl (fun w' hb => ⟨k1.keep hb, below_tr HB.out hb⟩) (fun w' hb hS2 => ?_)
  simp only [Act.put, List.setIfInBounds_toArray, List.set_cons_zero, List.set_cons_succ]
  clear hb
  replace hS := hS2
  clear hS2
  clear k1
  have hS2 := hS
  obtain ⟨k1, hB⟩ := hS2
  replace HB := Lib.hid hB
  clear hB
  refine wpAnyH_take (i := 35) (oi := ⟨some 154, _, _, _, _, _⟩) (v := .bool false) rfl (by kernel_rfl) (by kernel_rfl) (by kernel_rfl) (fun _ _ _ h => h) (yi_pick0 rfl rfl rfl rfl) hS ?_
  simp only [Act.put, List.setIfInBounds_toArray, List.set_cons_zero, List.set_cons_succ]
  refine wpAnyH_done (by kernel_rfl) ?_ _
  clear hS
  go_wp2_with fail
  rw [rounds_succ]
  go_wp2_with fail
  refine wp_region_held_drew (S := fun w' => Blk w' g1 25 (cfA c) ∧ Below w.heap.size w w') (by kernel_rfl) ⟨k1.drew, HB.out.drew⟩ (fun hS => ?_)
  clear k1
  have hS2 := hS
  obtain ⟨k1, hB⟩ := hS2
  replace HB := Lib.hid hB
  clear hB
  refine wpAnyH_take (i := 0) (oi := ⟨some 55, _, _, _, _, _⟩) (v := .int .i64 now) rfl (by kernel_rfl) (by kernel_rfl) (by kernel_rfl) (fun _ _ _ h => h) (yi_mv (Or.inl rfl) rfl rfl) hS ?_
  simp only [Act.put, List.setIfInBounds_toArray, List.set_cons_zero, List.set_cons_succ]
  refine wpAnyH_take (i := 1) (oi := ⟨some 56, _, _, _, _, _⟩) (v := .int .i64 t) rfl (by kernel_rfl) (by kernel_rfl) (by kernel_rfl) (fun _ _ _ h => h) (yi_mv (Or.inl rfl) rfl rfl) hS ?_
  simp only [Act.put, List.setIfInBounds_toArray, List.set_cons_zero, List.set_cons_succ]
  refine wpAnyH_take (i := 2) (oi := ⟨some 57, _, _, _, _, _⟩) (v := .int .i64 (now - t)) rfl (by kernel_rfl) (by kernel_rfl) (by kernel_rfl) (fun _ _ _ h => h) (yi_ok rfl (fun _ => by go_simp)) hS ?_
  simp only [Act.put, List.setIfInBounds_toArray, List.set_cons_zero, List.set_cons_succ]
  refine wpAnyH_take (i := 3) (oi := ⟨some 58, _, _, _, _, _⟩) (v := .agg (cfA c)) rfl (by kernel_rfl) (by kernel_rfl) (by kernel_rfl) (fun _ _ _ h => h) (yi_ld0 rfl rfl rfl (fun w' h => h.1) Try.underlying25 rfl cfInfo) hS ?_
  simp only [Act.put, List.setIfInBounds_toArray, List.set_cons_zero, List.set_cons_succ]
  refine anyH_call (i := 4) (op := ⟨some 59, _, _, _, _, _⟩) (by kernel_rfl) rfl rfl rfl Try.func24 (by kernel_rfl) rfl (HR.out _) rfl (fun w' hb => ⟨k1.keep hb, below_tr HB.out hb⟩) (fun w' hb hS2 => ?_)
  simp only [Act.put, List.setIfInBounds_toArray, List.set_cons_zero, List.set_cons_succ]
  clear hb
  replace hS := hS2
  clear hS2
  clear k1
  have hS2 := hS
  obtain ⟨k1, hB⟩ := hS2
  replace HB := Lib.hid hB
  clear hB
  refine wpAnyH_take (i := 5) (oi := ⟨some 60, _, _, _, _, _⟩) (v := .bool true) rfl (by kernel_rfl) (by kernel_rfl) (by kernel_rfl) (fun _ _ _ h => h) (yi_ok rfl (fun _ => by go_simp)) hS ?_
  simp only [Act.put, List.setIfInBounds_toArray, List.set_cons_zero, List.set_cons_succ]
  refine wpAnyH_take (i := 6) (oi := ⟨some 61, _, _, _, _, _⟩) (v := .bool true) rfl (by kernel_rfl) (by kernel_rfl) (by kernel_rfl) (fun _ _ _ h => h) (yi_mv (Or.inl rfl) rfl rfl) hS ?_
  simp only [Act.put, List.setIfInBounds_toArray, List.set_cons_zero, List.set_cons_succ]
  refine wpAnyH_take (i := 7) (oi := ⟨some 62, _, _, _, _, _⟩) (v := .int .i64 t) rfl (by kernel_rfl) (by kernel_rfl) (by kernel_rfl) (fun _ _ _ h => h) (yi_mv (Or.inl rfl) (by kernel_rfl) rfl) hS ?_
  simp only [Act.put, List.setIfInBounds_toArray, List.set_cons_zero, List.set_cons_succ]
  refine wpAnyH_take (i := 8) (oi := ⟨some 63, _, _, _, _, _⟩) (v := .int .i64 now) rfl (by kernel_rfl) (by kernel_rfl) (by kernel_rfl) (fun _ _ _ h => h) (yi_mv (Or.inl rfl) (by kernel_rfl) rfl) hS ?_
  simp only [Act.put, List.setIfInBounds_toArray, List.set_cons_zero, List.set_cons_succ]
  refine wpAnyH_take (i := 9) (oi := ⟨some 64, _, _, _, _, _⟩) (v := .int .i64 2) rfl (by kernel_rfl) (by kernel_rfl) (by kernel_rfl) (fun _ _ _ h => h) (yi_mv (Or.inl rfl) (by kernel_rfl) rfl) hS ?_
  simp only [Act.put, List.setIfInBounds_toArray, List.set_cons_zero, List.set_cons_succ]
  refine wpAnyH_take (i := 10) (oi := ⟨some 65, _, _, _, _, _⟩) (v := .pointer (some ⟨g1, 1, none⟩)) rfl (by kernel_rfl) (by kernel_rfl) (by kernel_rfl) (fun _ _ _ h => h) (yi_ok (by kernel_rfl) (fun _ => by go_simp)) hS ?_
  simp only [Act.put, List.setIfInBounds_toArray, List.set_cons_zero, List.set_cons_succ]
  refine wpAnyH_take (i := 11) (oi := ⟨some 66, _, _, _, _, _⟩) (v := .pointer (some ⟨g1, 3, none⟩)) rfl (by kernel_rfl) (by kernel_rfl) (by kernel_rfl) (fun _ _ _ h => h) (yi_ok (by kernel_rfl) (fun _ => by go_simp)) hS ?_
  simp only [Act.put, List.setIfInBounds_toArray, List.set_cons_zero, List.set_cons_succ]
  refine wpAnyH_take (i := 12) (oi := ⟨some 67, _, _, _, _, _⟩) (v := .int .i64 c.w2) rfl (by kernel_rfl) (by kernel_rfl) (by kernel_rfl) (fun _ _ _ h => h) (yi_ld1 (v := .int .i64 c.w2) rfl (by kernel_rfl) rfl (fun w' h => h.1) Try.underlying2 rfl rfl) hS ?_
  simp only [Act.put, List.setIfInBounds_toArray, List.set_cons_zero, List.set_cons_succ]
  refine wpAnyH_take (i := 13) (oi := ⟨some 68, _, _, _, _, _⟩) (v := .int .i64 2) rfl (by kernel_rfl) (by kernel_rfl) (by kernel_rfl) (fun _ _ _ h => h) (yi_mv (Or.inl rfl) (by kernel_rfl) rfl) hS ?_
  simp only [Act.put, List.setIfInBounds_toArray, List.set_cons_zero, List.set_cons_succ]
  refine wpAnyH_take (i := 14) (oi := ⟨some 69, _, _, _, _, _⟩) (v := .pointer (some ⟨g1, 4, none⟩)) rfl (by kernel_rfl) (by kernel_rfl) (by kernel_rfl) (fun _ _ _ h => h) (yi_ok (by kernel_rfl) (fun _ => by go_simp)) hS ?_
  simp only [Act.put, List.setIfInBounds_toArray, List.set_cons_zero, List.set_cons_succ]
  refine wpAnyH_take (i := 15) (oi := ⟨some 70, _, _, _, _, _⟩) (v := .pointer (some ⟨g1, 6, none⟩)) rfl (by kernel_rfl) (by kernel_rfl) (by kernel_rfl) (fun _ _ _ h => h) (yi_ok (by kernel_rfl) (fun _ => by go_simp)) hS ?_
  simp only [Act.put, List.setIfInBounds_toArray, List.set_cons_zero, List.set_cons_succ]
  refine wpAnyH_take (i := 16) (oi := ⟨some 71, _, _, _, _, _⟩) (v := .int .i64 c.n2) rfl (by kernel_rfl) (by kernel_rfl) (by kernel_rfl) (fun _ _ _ h => h) (yi_ld1 (v := .int .i64 c.n2) rfl (by kernel_rfl) rfl (fun w' h => h.1) Try.underlying3 rfl rfl) hS ?_
  simp only [Act.put, List.setIfInBounds_toArray, List.set_cons_zero, List.set_cons_succ]
  refine anyH_call (i := 17) (op := ⟨some 72, _, _, _, _, _⟩) (by kernel_rfl) rfl rfl (by kernel_rfl) Try.func28 (by kernel_rfl) rfl (gone_at G2.out _) rfl (fun w' hb => ⟨k1.keep hb, below_tr HB.out hb⟩) (fun w' hb hS2 => ?_)
  simp only [Act.put, List.setIfInBounds_toArray, List.set_cons_zero, List.set_cons_succ]
  clear hb
  replace hS := hS2
  clear hS2
  clear k1
  have hS2 := hS
  obtain ⟨k1, hB⟩ := hS2
  replace HB := Lib.hid hB
  clear hB
  refine wpAnyH_take (i := 18) (oi := ⟨some 73, _, _, _, _, _⟩) (v := .bool false) rfl (by kernel_rfl) (by kernel_rfl) (by kernel_rfl) (fun _ _ _ h => h) (yi_not rfl (by kernel_rfl) rfl rfl) hS ?_
  simp only [Act.put, List.setIfInBounds_toArray, List.set_cons_zero, List.set_cons_succ]
  refine wpAnyH_take (i := 19) (oi := ⟨some 74, _, _, _, _, _⟩) (v := .bool false) rfl (by kernel_rfl) (by kernel_rfl) (by kernel_rfl) (fun _ _ _ h => h) (yi_pick1 rfl rfl rfl rfl) hS ?_
  simp only [Act.put, List.setIfInBounds_toArray, List.set_cons_zero, List.set_cons_succ]
  refine wpAnyH_done (by kernel_rfl) ?_ _
  clear hS
  go_wp2_with (first
      | ((with_reducible refine at_slot 77 ?_); refine wl_ld0 rfl rfl rfl k1 Try.underlying25 rfl cfInfo ?_)
      | ((with_reducible refine at_slot 79 ?_); refine wl_call rfl rfl Try.func14 (by kernel_rfl) rfl (HF2.out _) rfl ?_; intro V14 hb; replace k1 := k1.keep hb; replace HB := Lib.hid (below_tr HB.out hb); clear hb)
      | ((with_reducible refine at_slot 87 ?_); refine wl_ld1 (v := .int .i64 c.w2) rfl rfl rfl k1 Try.underlying2 rfl rfl ?_)
      | ((with_reducible refine at_slot 88 ?_); refine wl_call rfl rfl Try.func27 (by kernel_rfl) rfl (of_at Q2.out.1 Q2.out.2 _) rfl ?_; intro V15 hb; replace k1 := k1.keep hb; replace HB := Lib.hid (below_tr HB.out hb); clear hb)
      | ((with_reducible refine at_slot 97 ?_); refine wl_ld1 (v := .int .i64 c.w1) rfl rfl rfl k1 Try.underlying2 rfl rfl ?_)
      | ((with_reducible refine at_slot 98 ?_); refine wl_call rfl rfl Try.func27 (by kernel_rfl) rfl (of_at Q1.out.1 Q1.out.2 _) rfl ?_; intro V16 hb; replace k1 := k1.keep hb; replace HB := Lib.hid (below_tr HB.out hb); clear hb)
      | ((with_reducible refine at_slot 106 ?_); refine wl_ld1 (v := .int .i64 c.w2) rfl rfl rfl k1 Try.underlying2 rfl rfl ?_)
      | ((with_reducible refine at_slot 107 ?_); refine wl_call rfl rfl Try.func27 (by kernel_rfl) rfl (of_at (if_pos P2.out) (if_pos P2.out) _) rfl ?_; intro V17 hb; replace k1 := k1.keep hb; replace HB := Lib.hid (below_tr HB.out hb); clear hb)
      | ((with_reducible refine at_slot 115 ?_); refine wl_ld1 (v := .int .i64 c.w2) rfl rfl rfl k1 Try.underlying2 rfl rfl ?_)
      | ((with_reducible refine at_slot 116 ?_); refine wl_call rfl rfl Try.func29 (by kernel_rfl) rfl (beg9_at (if_pos B2.out) (if_pos B2.out) _) rfl ?_; intro V18 hb; replace k1 := k1.keep hb; replace HB := Lib.hid (below_tr HB.out hb); clear hb))
  refine wp_region_held_drew (S := fun w' => Blk w' g1 25 (cfA c) ∧ Below w.heap.size w w') (by kernel_rfl) ⟨k1.drew, HB.out.drew⟩ (fun hS => ?_)
  clear k1
  have hS2 := hS
  obtain ⟨k1, hB⟩ := hS2
  replace HB := Lib.hid hB
  clear hB
  refine wpAnyH_take (i := 0) (oi := ⟨some 119, _, _, _, _, _⟩) (v := .int .i64 0) rfl (by kernel_rfl) (by kernel_rfl) (by kernel_rfl) (fun _ _ _ h => h) (yi_mv (Or.inl rfl) rfl rfl) hS ?_
  simp only [Act.put, List.setIfInBounds_toArray, List.set_cons_zero, List.set_cons_succ]
  refine wpAnyH_take (i := 1) (oi := ⟨some 120, _, _, _, _, _⟩) (v := .bool false) rfl (by kernel_rfl) (by kernel_rfl) (by kernel_rfl) (fun _ _ _ h => h) (yi_ok rfl (fun _ => by go_simp)) hS ?_
  simp only [Act.put, List.setIfInBounds_toArray, List.set_cons_zero, List.set_cons_succ]
  refine wpAnyH_take (i := 2) (oi := ⟨some 121, _, _, _, _, _⟩) (v := .bool false) rfl (by kernel_rfl) (by kernel_rfl) (by kernel_rfl) (fun _ _ _ h => h) (yi_mv (Or.inl rfl) rfl rfl) hS ?_
  simp only [Act.put, List.setIfInBounds_toArray, List.set_cons_zero, List.set_cons_succ]
  refine wpAnyH_take (i := 3) (oi := ⟨some 122, _, _, _, _, _⟩) (v := .int .i64 0) rfl (by kernel_rfl) (by kernel_rfl) (by kernel_rfl) (fun _ _ _ h => h) (yi_mv (Or.inl rfl) (by kernel_rfl) rfl) hS ?_
  simp only [Act.put, List.setIfInBounds_toArray, List.set_cons_zero, List.set_cons_succ]
  refine wpAnyH_take (i := 4) (oi := ⟨some 123, _, _, _, _, _⟩) (v := .bool false) rfl (by kernel_rfl) (by kernel_rfl) (by kernel_rfl) (fun _ _ _ h => h) (yi_ok (by kernel_rfl) (fun _ => by go_simp)) hS ?_
  simp only [Act.put, List.setIfInBounds_toArray, List.set_cons_zero, List.set_cons_succ]
  refine wpAnyH_take (i := 5) (oi := ⟨some 124, _, _, _, _, _⟩) (v := .bool false) rfl (by kernel_rfl) (by kernel_rfl) (by kernel_rfl) (fun _ _ _ h => h) (yi_pick0 rfl rfl rfl rfl) hS ?_
  simp only [Act.put, List.setIfInBounds_toArray, List.set_cons_zero, List.set_cons_succ]
  refine wpAnyH_take (i := 6) (oi := ⟨some 125, _, _, _, _, _⟩) (v := .bool false) rfl (by kernel_rfl) (by kernel_rfl) (by kernel_rfl) (fun _ _ _ h => h) (yi_mv (Or.inl rfl) rfl rfl) hS ?_
  simp only [Act.put, List.setIfInBounds_toArray, List.set_cons_zero, List.set_cons_succ]
  refine wpAnyH_take (i := 7) (oi := ⟨some 126, _, _, _, _, _⟩) (v := .int .i64 0) rfl (by kernel_rfl) (by kernel_rfl) (by kernel_rfl) (fun _ _ _ h => h) (yi_mv (Or.inl rfl) (by kernel_rfl) rfl) hS ?_
  simp only [Act.put, List.setIfInBounds_toArray, List.set_cons_zero, List.set_cons_succ]
  refine wpAnyH_take (i := 8) (oi := ⟨some 127, _, _, _, _, _⟩) (v := .bool false) rfl (by kernel_rfl) (by kernel_rfl) (by kernel_rfl) (fun _ _ _ h => h) (yi_ok (by kernel_rfl) (fun _ => by go_simp)) hS ?_
  simp only [Act.put, List.setIfInBounds_toArray, List.set_cons_zero, List.set_cons_succ]
  refine wpAnyH_take (i := 9) (oi := ⟨some 128, _, _, _, _, _⟩) (v := .bool false) rfl (by kernel_rfl) (by kernel_rfl) (by kernel_rfl) (fun _ _ _ h => h) (yi_pick0 rfl rfl rfl rfl) hS ?_
  simp only [Act.put, List.setIfInBounds_toArray, List.set_cons_zero, List.set_cons_succ]
  refine wpAnyH_take (i := 10) (oi := ⟨some 129, _, _, _, _, _⟩) (v := .bool false) rfl (by kernel_rfl) (by kernel_rfl) (by kernel_rfl) (fun _ _ _ h => h) (yi_mv (Or.inl rfl) rfl rfl) hS ?_
  simp only [Act.put, List.setIfInBounds_toArray, List.set_cons_zero, List.set_cons_succ]
  refine wpAnyH_take (i := 11) (oi := ⟨some 130, _, _, _, _, _⟩) (v := .int .i64 0) rfl (by kernel_rfl) (by kernel_rfl) (by kernel_rfl) (fun _ _ _ h => h) (yi_mv (Or.inl rfl) (by kernel_rfl) rfl) hS ?_
  simp only [Act.put, List.setIfInBounds_toArray, List.set_cons_zero, List.set_cons_succ]
  refine wpAnyH_take (i := 12) (oi := ⟨some 131, _, _, _, _, _⟩) (v := .bool false) rfl (by kernel_rfl) (by kernel_rfl) (by kernel_rfl) (fun _ _ _ h => h) (yi_ok (by kernel_rfl) (fun _ => by go_simp)) hS ?_
  simp only [Act.put, List.setIfInBounds_toArray, List.set_cons_zero, List.set_cons_succ]
  refine wpAnyH_take (i := 13) (oi := ⟨some 132, _, _, _, _, _⟩) (v := .bool false) rfl (by kernel_rfl) (by kernel_rfl) (by kernel_rfl) (fun _ _ _ h => h) (yi_pick0 rfl rfl rfl rfl) hS ?_
  simp only [Act.put, List.setIfInBounds_toArray, List.set_cons_zero, List.set_cons_succ]
  refine wpAnyH_take (i := 14) (oi := ⟨some 133, _, _, _, _, _⟩) (v := .bool false) rfl (by kernel_rfl) (by kernel_rfl) (by kernel_rfl) (fun _ _ _ h => h) (yi_mv (Or.inl rfl) rfl rfl) hS ?_
  simp only [Act.put, List.setIfInBounds_toArray, List.set_cons_zero, List.set_cons_succ]
  refine wpAnyH_take (i := 15) (oi := ⟨some 134, _, _, _, _, _⟩) (v := .int .i64 q1) rfl (by kernel_rfl) (by kernel_rfl) (by kernel_rfl) (fun _ _ _ h => h) (yi_mv (Or.inl rfl) (by kernel_rfl) rfl) hS ?_
  simp only [Act.put, List.setIfInBounds_toArray, List.set_cons_zero, List.set_cons_succ]
  refine wpAnyH_take (i := 16) (oi := ⟨some 135, _, _, _, _, _⟩) (v := .int .i64 f2) rfl (by kernel_rfl) (by kernel_rfl) (by kernel_rfl) (fun _ _ _ h => h) (yi_mv (Or.inl rfl) (by kernel_rfl) rfl) hS ?_
  simp only [Act.put, List.setIfInBounds_toArray, List.set_cons_zero, List.set_cons_succ]
  refine wpAnyH_take (i := 17) (oi := ⟨some 136, _, _, _, _, _⟩) (v := .int .i64 q2) rfl (by kernel_rfl) (by kernel_rfl) (by kernel_rfl) (fun _ _ _ h => h) (yi_ok (by kernel_rfl) (fun _ => by go_simp)) hS ?_
  simp only [Act.put, List.setIfInBounds_toArray, List.set_cons_zero, List.set_cons_succ]
  refine wpAnyH_take (i := 18) (oi := ⟨some 137, _, _, _, _, _⟩) (v := .int .i64 q2) rfl (by kernel_rfl) (by kernel_rfl) (by kernel_rfl) (fun _ _ _ h => h) (yi_mv (Or.inl rfl) (by kernel_rfl) rfl) hS ?_
  simp only [Act.put, List.setIfInBounds_toArray, List.set_cons_zero, List.set_cons_succ]
  refine wpAnyH_take (i := 19) (oi := ⟨some 138, _, _, _, _, _⟩) (v := .bool false) rfl (by kernel_rfl) (by kernel_rfl) (by kernel_rfl) (fun _ _ _ h => h) (yi_ok (by kernel_rfl) (fun _ => by go_simp)) hS ?_
  simp only [Act.put, List.setIfInBounds_toArray, List.set_cons_zero, List.set_cons_succ]
  refine wpAnyH_take (i := 20) (oi := ⟨some 139, _, _, _, _, _⟩) (v := .bool false) rfl (by kernel_rfl) (by kernel_rfl) (by kernel_rfl) (fun _ _ _ h => h) (yi_pick0 rfl rfl rfl rfl) hS ?_
  simp only [Act.put, List.setIfInBounds_toArray, List.set_cons_zero, List.set_cons_succ]
  refine wpAnyH_take (i := 21) (oi := ⟨some 140, _, _, _, _, _⟩) (v := .bool false) rfl (by kernel_rfl) (by kernel_rfl) (by kernel_rfl) (fun _ _ _ h => h) (yi_mv (Or.inl rfl) rfl rfl) hS ?_
  simp only [Act.put, List.setIfInBounds_toArray, List.set_cons_zero, List.set_cons_succ]
  refine wpAnyH_take (i := 22) (oi := ⟨some 141, _, _, _, _, _⟩) (v := .int .i64 (now / c.w2 * c.w2)) rfl (by kernel_rfl) (by kernel_rfl) (by kernel_rfl) (fun _ _ _ h => h) (yi_mv (Or.inl rfl) (by kernel_rfl) rfl) hS ?_
  simp only [Act.put, List.setIfInBounds_toArray, List.set_cons_zero, List.set_cons_succ]
  refine wpAnyH_take (i := 23) (oi := ⟨some 142, _, _, _, _, _⟩) (v := .int .i64 now) rfl (by kernel_rfl) (by kernel_rfl) (by kernel_rfl) (fun _ _ _ h => h) (yi_mv (Or.inl rfl) (by kernel_rfl) rfl) hS ?_
  simp only [Act.put, List.setIfInBounds_toArray, List.set_cons_zero, List.set_cons_succ]
  refine wpAnyH_take (i := 24) (oi := ⟨some 143, _, _, _, _, _⟩) (v := .int .i64 2) rfl (by kernel_rfl) (by kernel_rfl) (by kernel_rfl) (fun _ _ _ h => h) (yi_mv (Or.inl rfl) (by kernel_rfl) rfl) hS ?_
  simp only [Act.put, List.setIfInBounds_toArray, List.set_cons_zero, List.set_cons_succ]
  refine wpAnyH_take (i := 25) (oi := ⟨some 144, _, _, _, _, _⟩) (v := .int .i64 1) rfl (by kernel_rfl) (by kernel_rfl) (by kernel_rfl) (fun _ _ _ h => h) (yi_ok (by kernel_rfl) (fun _ => by go_simp)) hS ?_
  simp only [Act.put, List.setIfInBounds_toArray, List.set_cons_zero, List.set_cons_succ]
  refine wpAnyH_take (i := 26) (oi := ⟨some 145, _, _, _, _, _⟩) (v := .pointer (some ⟨g1, 1, none⟩)) rfl (by kernel_rfl) (by kernel_rfl) (by kernel_rfl) (fun _ _ _ h => h) (yi_ok (by kernel_rfl) (fun _ => by go_simp)) hS ?_
  simp only [Act.put, List.setIfInBounds_toArray, List.set_cons_zero, List.set_cons_succ]
  refine wpAnyH_take (i := 27) (oi := ⟨some 146, _, _, _, _, _⟩) (v := .pointer (some ⟨g1, 2, none⟩)) rfl (by kernel_rfl) (by kernel_rfl) (by kernel_rfl) (fun _ _ _ h => h) (yi_ok (by kernel_rfl) (fun _ => by go_simp)) hS ?_
  simp only [Act.put, List.setIfInBounds_toArray, List.set_cons_zero, List.set_cons_succ]
  refine wpAnyH_take (i := 28) (oi := ⟨some 147, _, _, _, _, _⟩) (v := .int .i64 c.w1) rfl (by kernel_rfl) (by kernel_rfl) (by kernel_rfl) (fun _ _ _ h => h) (yi_ld1 (v := .int .i64 c.w1) rfl (by kernel_rfl) rfl (fun w' h => h.1) Try.underlying2 rfl rfl) hS ?_
  simp only [Act.put, List.setIfInBounds_toArray, List.set_cons_zero, List.set_cons_succ]
  refine wpAnyH_take (i := 29) (oi := ⟨some 148, _, _, _, _, _⟩) (v := .int .i64 2) rfl (by kernel_rfl) (by kernel_rfl) (by kernel_rfl) (fun _ _ _ h => h) (yi_mv (Or.inl rfl) (by kernel_rfl) rfl) hS ?_
  simp only [Act.put, List.setIfInBounds_toArray, List.set_cons_zero, List.set_cons_succ]
  refine wpAnyH_take (i := 30) (oi := ⟨some 149, _, _, _, _, _⟩) (v := .int .i64 1) rfl (by kernel_rfl) (by kernel_rfl) (by kernel_rfl) (fun _ _ _ h => h) (yi_ok (by kernel_rfl) (fun _ => by go_simp)) hS ?_
  simp only [Act.put, List.setIfInBounds_toArray, List.set_cons_zero, List.set_cons_succ]
  refine wpAnyH_take (i := 31) (oi := ⟨some 150, _, _, _, _, _⟩) (v := .pointer (some ⟨g1, 4, none⟩)) rfl (by kernel_rfl) (by kernel_rfl) (by kernel_rfl) (fun _ _ _ h => h) (yi_ok (by kernel_rfl) (fun _ => by go_simp)) hS ?_
  simp only [Act.put, List.setIfInBounds_toArray, List.set_cons_zero, List.set_cons_succ]
  refine wpAnyH_take (i := 32) (oi := ⟨some 151, _, _, _, _, _⟩) (v := .pointer (some ⟨g1, 5, none⟩)) rfl (by kernel_rfl) (by kernel_rfl) (by kernel_rfl) (fun _ _ _ h => h) (yi_ok (by kernel_rfl) (fun _ => by go_simp)) hS ?_
  simp only [Act.put, List.setIfInBounds_toArray, List.set_cons_zero, List.set_cons_succ]
  refine wpAnyH_take (i := 33) (oi := ⟨some 152, _, _, _, _, _⟩) (v := .int .i64 c.n1) rfl (by kernel_rfl) (by kernel_rfl) (by kernel_rfl) (fun _ _ _ h => h) (yi_ld1 (v := .int .i64 c.n1) rfl (by kernel_rfl) rfl (fun w' h => h.1) Try.underlying3 rfl rfl) hS ?_
  simp only [Act.put, List.setIfInBounds_toArray, List.set_cons_zero, List.set_cons_succ]
  refine anyH_call (i := 34) (op := ⟨some 153, _, _, _, _, _⟩) (by kernel_rfl) rfl rfl (by kernel_rfl) Try.func28 (by kernel_rfl) rfl (gone_at N2.out _) rfl (fun w' hb => ⟨k1.keep hb, below_tr HB.out hb⟩) (fun w' hb hS2 => ?_)
  simp only [Act.put, List.setIfInBounds_toArray, List.set_cons_zero, List.set_cons_succ]
  clear hb
  replace hS := hS2
  clear hS2
  clear k1
  have hS2 := hS
  obtain ⟨k1, hB⟩ := hS2
  replace HB := Lib.hid hB
  clear hB
  refine wpAnyH_take (i := 35) (oi := ⟨some 154, _, _, _, _, _⟩) (v := .bool false) rfl (by kernel_rfl) (by kernel_rfl) (by kernel_rfl) (fun _ _ _ h => h) (yi_pick0 rfl rfl rfl rfl) hS ?_
  simp only [Act.put, List.setIfInBounds_toArray, List.set_cons_zero, List.set_cons_succ]
  refine wpAnyH_done (by kernel_rfl) ?_ _
  clear hS
  go_wp2_with fail
  rw [rounds_succ]
  go_wp2_with fail
  go_ret
  exact ⟨rfl, HB.out⟩
set_option maxHeartbeats 4000000 in
set_option maxRecDepth 100000 in
theorem nest_new {c : Cf} {t now : Int} (h : CfOk c) (ht : TimeOk t ∧ WidthOk 1) (hn : TimeOk now ∧ WidthOk 1) (ho : now - t < max (max (c.w0 * c.n0) (c.w1 * c.n1)) (c.w2 * c.n2)) (w : World) : Calls Try.prog 5 #[.agg (cfA c), .int .i64 t, .int .i64 now] w fun e w' => e = .returned (.bool true) ∧ Below w.heap.size w w' := by
  obtain ⟨⟨k0, s0⟩, ⟨k1, s1⟩, k2, s2⟩ := h.1.1
  obtain ⟨⟨m1, j1⟩, m2, j2⟩ := h.1.2
  have HR := Lib.hid (fun w1 => ret_yes h w1)
  obtain ⟨r, hr⟩ : ∃ r, r = max (max (c.w0 * c.n0) (c.w1 * c.n1)) (c.w2 * c.n2) := ⟨_, rfl⟩
  rw [← hr] at HR ho
  clear hr
  have dg : decide (r ≤ now - t) = false := by simp; omega
  have HF1 := Lib.hid (fun w1 => fac_1 h w1)
  have u1 := fac_pos k0.1 k1.1 m1
  have v1 : c.w1 / c.w0 ≤ 1099511627776 := by have := k1.2; have := Int.ediv_le_self (c.w0) (show 0 ≤ c.w1 by have := k1.1; omega); omega
  have E1 := nest_div (t := t) k0.1 m1
  have B1 := Lib.hid (beg_at5 hn.1 k1)
  have N1 := Lib.hid (nest_kept hn.1 k0 k1 s0 m1 j1)
  generalize c.w1 / c.w0 = f1 at HF1 u1 v1 E1
  have HF2 := Lib.hid (fun w1 => fac_2 h w1)
  have u2 := fac_pos k1.1 k2.1 m2
  have v2 : c.w2 / c.w1 ≤ 1099511627776 := by have := k2.2; have := Int.ediv_le_self (c.w1) (show 0 ≤ c.w2 by have := k2.1; omega); omega
  have E2 := nest_div (t := t) k1.1 m2
  have B2 := Lib.hid (beg_at5 hn.1 k2)
  have N2 := Lib.hid (nest_kept hn.1 k1 k2 s1 m2 j2)
  generalize c.w2 / c.w1 = f2 at HF2 u2 v2 E2
  have O0 := Lib.hid (show TimeOk t ∧ WidthOk c.w0 from ⟨ht.1, k0⟩)
  have P0 := Lib.hid (show TimeOk now ∧ WidthOk c.w0 from ⟨hn.1, k0⟩)
  obtain ⟨x0, y0⟩ := quo_bd O0.out
  have O1 := Lib.hid (show TimeOk t ∧ WidthOk c.w1 from ⟨ht.1, k1⟩)
  have P1 := Lib.hid (show TimeOk now ∧ WidthOk c.w1 from ⟨hn.1, k1⟩)
  obtain ⟨x1, y1⟩ := quo_bd O1.out
  have O2 := Lib.hid (show TimeOk t ∧ WidthOk c.w2 from ⟨ht.1, k2⟩)
  have P2 := Lib.hid (show TimeOk now ∧ WidthOk c.w2 from ⟨hn.1, k2⟩)
  obtain ⟨x2, y2⟩ := quo_bd O2.out
  have HC := Lib.hid h
  have HT := Lib.hid ht
  have HN := Lib.hid hn
  obtain ⟨⟨t0, t1⟩, _⟩ := ht
  obtain ⟨⟨n0, n1⟩, _⟩ := hn
  obtain ⟨q0, hq0⟩ : ∃ q, q = t / c.w0 := ⟨_, rfl⟩
  obtain ⟨q1, hq1⟩ : ∃ q, q = t / c.w1 := ⟨_, rfl⟩
  obtain ⟨q2, hq2⟩ : ∃ q, q = t / c.w2 := ⟨_, rfl⟩
  rw [← hq0, ← hq1] at E1
  rw [← hq1, ← hq2] at E2
  rw [← hq0] at x0 y0
  rw [← hq1] at x1 y1
  rw [← hq2] at x2 y2
  have Q0 : Hid (ofI t c.w0 = q0 ∧ ofE t c.w0 = 0) := Lib.hid ⟨by rw [hq0]; exact if_pos O0.out, if_pos O0.out⟩
  have Q1 : Hid (ofI t c.w1 = q1 ∧ ofE t c.w1 = 0) := Lib.hid ⟨by rw [hq1]; exact if_pos O1.out, if_pos O1.out⟩
  have Q2 : Hid (ofI t c.w2 = q2 ∧ ofE t c.w2 = 0) := Lib.hid ⟨by rw [hq2]; exact if_pos O2.out, if_pos O2.out⟩
  clear hq0 hq1 hq2 h k0 k1 k2 s0 s1 s2 m1 m2 j1 j2
  have c11 : (q0.tdiv f1) = q1 := by rw [Int.tdiv_eq_ediv_of_nonneg x0]; exact E1
  have c12 : IntKind.i64.wrap q1 = q1 := by rw [IntKind.wrap_i64]; omega
  have c13 : ¬ f1 = 0 := by omega
  have c14 : decide (f1 < 1) = false := by simp; omega
  have c21 : (q1.tdiv f2) = q2 := by rw [Int.tdiv_eq_ediv_of_nonneg x1]; exact E2
  have c22 : IntKind.i64.wrap q2 = q2 := by rw [IntKind.wrap_i64]; omega
  have c23 : ¬ f2 = 0 := by omega
  have c24 : decide (f2 < 1) = false := by simp; omega
  have z0 : IntKind.i64.wrap 0 = 0 := by decide
  have z1 : IntKind.i64.wrap 1 = 1 := by decide
  have i9 : IntKind.i64.wrap (now - t) = now - t := by rw [IntKind.wrap_i64]; omega
  
  have HB := Lib.hid (Below.refl w.heap.size w)
  go_enter Try.func5, Try.ntmps5
  go_wp2_with (first
      | ((with_reducible refine at_slot 3 ?_); refine wl_box (A := (cfA c)) rfl rfl rfl ?_; intro W1 g1 k1 hb hle; have L1 := Lib.hid (Nat.le_trans HB.out.size hle); replace HB := Lib.hid (below_tr HB.out hb); clear hb hle)
      | ((with_reducible refine at_slot 21 ?_); refine wl_call rfl rfl Try.func26 (by kernel_rfl) rfl (begins5_any _) rfl ?_; intro V1 hb; replace k1 := k1.keep hb; replace HB := Lib.hid (below_tr HB.out hb); clear hb)
      | ((with_reducible refine at_slot 23 ?_); refine wl_ld0 rfl rfl rfl k1 Try.underlying25 rfl cfInfo ?_)
      | ((with_reducible refine at_slot 24 ?_); refine wl_call rfl rfl Try.func12 (by kernel_rfl) rfl (cck_yes HC.out _) rfl ?_; intro V2 hb; replace k1 := k1.keep hb; replace HB := Lib.hid (below_tr HB.out hb); clear hb)
      | ((with_reducible refine at_slot 28 ?_); refine wl_call rfl rfl Try.func27 (by kernel_rfl) rfl (of_at (if_pos HT.out) (if_pos HT.out) _) rfl ?_; intro V3 hb; replace k1 := k1.keep hb; replace HB := Lib.hid (below_tr HB.out hb); clear hb)
      | ((with_reducible refine at_slot 33 ?_); refine wl_call rfl rfl Try.func27 (by kernel_rfl) rfl (of_at (if_pos HN.out) (if_pos HN.out) _) rfl ?_; intro V4 hb; replace k1 := k1.keep hb; replace HB := Lib.hid (below_tr HB.out hb); clear hb))
  refine wp_loop_rounds 4 ?_
  rw [rounds_succ]
  go_wp2_with fail
  refine wp_region_held_drew (S := fun w' => Blk w' g1 25 (cfA c) ∧ Below w.heap.size w w') (by kernel_rfl) ⟨k1.drew, HB.out.drew⟩ (fun hS => ?_)
  clear k1
  have hS2 := hS
  obtain ⟨k1, hB⟩ := hS2
  replace HB := Lib.hid hB
  clear hB
  refine wpAnyH_take (i := 0) (oi := ⟨some 55, _, _, _, _, _⟩) (v := .int .i64 now) rfl (by kernel_rfl) (by kernel_rfl) (by kernel_rfl) (fun _ _ _ h => h) (yi_mv (Or.inl rfl) rfl rfl) hS ?_
  simp only [Act.put, List.setIfInBounds_toArray, List.set_cons_zero, List.set_cons_succ]
  refine wpAnyH_take (i := 1) (oi := ⟨some 56, _, _, _, _, _⟩) (v := .int .i64 t) rfl (by kernel_rfl) (by kernel_rfl) (by kernel_rfl) (fun _ _ _ h => h) (yi_mv (Or.inl rfl) rfl rfl) hS ?_
  simp only [Act.put, List.setIfInBounds_toArray, List.set_cons_zero, List.set_cons_succ]
  refine wpAnyH_take (i := 2) (oi := ⟨some 57, _, _, _, _, _⟩) (v := .int .i64 (now - t)) rfl (by kernel_rfl) (by kernel_rfl) (by kernel_rfl) (fun _ _ _ h => h) (yi_ok rfl (fun _ => by go_simp)) hS ?_
  simp only [Act.put, List.setIfInBounds_toArray, List.set_cons_zero, List.set_cons_succ]
  refine wpAnyH_take (i := 3) (oi := ⟨some 58, _, _, _, _, _⟩) (v := .agg (cfA c)) rfl (by kernel_rfl) (by kernel_rfl) (by kernel_rfl) (fun _ _ _ h => h) (yi_ld0 rfl rfl rfl (fun w' h => h.1) Try.underlying25 rfl cfInfo) hS ?_
  simp only [Act.put, List.setIfInBounds_toArray, List.set_cons_zero, List.set_cons_succ]
  refine anyH_call (i := 4) (op := ⟨some 59, _, _, _, _, _⟩) (by kernel_rfl) rfl rfl rfl Try.func24 (by kernel_rfl) rfl (HR.out _) rfl (fun w' hb => ⟨k1.keep hb, below_tr HB.out hb⟩) (fun w' hb hS2 => ?_)
  simp only [Act.put, List.setIfInBounds_toArray, List.set_cons_zero, List.set_cons_succ]
  clear hb
  replace hS := hS2
  clear hS2
  clear k1
  have hS2 := hS
  obtain ⟨k1, hB⟩ := hS2
  replace HB := Lib.hid hB
  clear hB
  refine wpAnyH_take (i := 5) (oi := ⟨some 60, _, _, _, _, _⟩) (v := .bool false) rfl (by kernel_rfl) (by kernel_rfl) (by kernel_rfl) (fun _ _ _ h => h) (yi_ok rfl (fun _ => by go_simp)) hS ?_
  simp only [Act.put, List.setIfInBounds_toArray, List.set_cons_zero, List.set_cons_succ]
  refine wpAnyH_take (i := 6) (oi := ⟨some 61, _, _, _, _, _⟩) (v := .bool false) rfl (by kernel_rfl) (by kernel_rfl) (by kernel_rfl) (fun _ _ _ h => h) (yi_mv (Or.inl rfl) rfl rfl) hS ?_
  simp only [Act.put, List.setIfInBounds_toArray, List.set_cons_zero, List.set_cons_succ]
  refine wpAnyH_take (i := 7) (oi := ⟨some 62, _, _, _, _, _⟩) (v := undef) rfl (by kernel_rfl) (by kernel_rfl) (by kernel_rfl) (fun _ _ _ h => h) (yi_no (by kernel_rfl)) hS ?_
  simp only [Act.put, List.setIfInBounds_toArray, List.set_cons_zero, List.set_cons_succ]
  refine wpAnyH_take (i := 8) (oi := ⟨some 63, _, _, _, _, _⟩) (v := undef) rfl (by kernel_rfl) (by kernel_rfl) (by kernel_rfl) (fun _ _ _ h => h) (yi_no (by kernel_rfl)) hS ?_
  simp only [Act.put, List.setIfInBounds_toArray, List.set_cons_zero, List.set_cons_succ]
  refine wpAnyH_take (i := 9) (oi := ⟨some 64, _, _, _, _, _⟩) (v := undef) rfl (by kernel_rfl) (by kernel_rfl) (by kernel_rfl) (fun _ _ _ h => h) (yi_no (by kernel_rfl)) hS ?_
  simp only [Act.put, List.setIfInBounds_toArray, List.set_cons_zero, List.set_cons_succ]
  refine wpAnyH_take (i := 10) (oi := ⟨some 65, _, _, _, _, _⟩) (v := undef) rfl (by kernel_rfl) (by kernel_rfl) (by kernel_rfl) (fun _ _ _ h => h) (yi_no (by kernel_rfl)) hS ?_
  simp only [Act.put, List.setIfInBounds_toArray, List.set_cons_zero, List.set_cons_succ]
  refine wpAnyH_take (i := 11) (oi := ⟨some 66, _, _, _, _, _⟩) (v := undef) rfl (by kernel_rfl) (by kernel_rfl) (by kernel_rfl) (fun _ _ _ h => h) (yi_no (by kernel_rfl)) hS ?_
  simp only [Act.put, List.setIfInBounds_toArray, List.set_cons_zero, List.set_cons_succ]
  refine wpAnyH_take (i := 12) (oi := ⟨some 67, _, _, _, _, _⟩) (v := undef) rfl (by kernel_rfl) (by kernel_rfl) (by kernel_rfl) (fun _ _ _ h => h) (yi_no (by kernel_rfl)) hS ?_
  simp only [Act.put, List.setIfInBounds_toArray, List.set_cons_zero, List.set_cons_succ]
  refine wpAnyH_take (i := 13) (oi := ⟨some 68, _, _, _, _, _⟩) (v := undef) rfl (by kernel_rfl) (by kernel_rfl) (by kernel_rfl) (fun _ _ _ h => h) (yi_no (by kernel_rfl)) hS ?_
  simp only [Act.put, List.setIfInBounds_toArray, List.set_cons_zero, List.set_cons_succ]
  refine wpAnyH_take (i := 14) (oi := ⟨some 69, _, _, _, _, _⟩) (v := undef) rfl (by kernel_rfl) (by kernel_rfl) (by kernel_rfl) (fun _ _ _ h => h) (yi_no (by kernel_rfl)) hS ?_
  simp only [Act.put, List.setIfInBounds_toArray, List.set_cons_zero, List.set_cons_succ]
  refine wpAnyH_take (i := 15) (oi := ⟨some 70, _, _, _, _, _⟩) (v := undef) rfl (by kernel_rfl) (by kernel_rfl) (by kernel_rfl) (fun _ _ _ h => h) (yi_no (by kernel_rfl)) hS ?_
  simp only [Act.put, List.setIfInBounds_toArray, List.set_cons_zero, List.set_cons_succ]
  refine wpAnyH_take (i := 16) (oi := ⟨some 71, _, _, _, _, _⟩) (v := undef) rfl (by kernel_rfl) (by kernel_rfl) (by kernel_rfl) (fun _ _ _ h => h) (yi_no (by kernel_rfl)) hS ?_
  simp only [Act.put, List.setIfInBounds_toArray, List.set_cons_zero, List.set_cons_succ]
  refine wpAnyH_take (i := 17) (oi := ⟨some 72, _, _, _, _, _⟩) (v := undef) rfl (by kernel_rfl) (by kernel_rfl) (by kernel_rfl) (fun _ _ _ h => h) (yi_no (by kernel_rfl)) hS ?_
  simp only [Act.put, List.setIfInBounds_toArray, List.set_cons_zero, List.set_cons_succ]
  refine wpAnyH_take (i := 18) (oi := ⟨some 73, _, _, _, _, _⟩) (v := undef) rfl (by kernel_rfl) (by kernel_rfl) (by kernel_rfl) (fun _ _ _ h => h) (yi_no (by kernel_rfl)) hS ?_
  simp only [Act.put, List.setIfInBounds_toArray, List.set_cons_zero, List.set_cons_succ]
  refine wpAnyH_take (i := 19) (oi := ⟨some 74, _, _, _, _, _⟩) (v := .bool false) rfl (by kernel_rfl) (by kernel_rfl) (by kernel_rfl) (fun _ _ _ h => h) (yi_pick0 rfl rfl rfl rfl) hS ?_
  simp only [Act.put, List.setIfInBounds_toArray, List.set_cons_zero, List.set_cons_succ]
  refine wpAnyH_done (by kernel_rfl) ?_ _
  clear hS
  go_wp2_with fail
  rw [rounds_succ]
  go_wp2_with fail
  refine wp_region_held_drew (S := fun w' => Blk w' g1 25 (cfA c) ∧ Below w.heap.size w w') (by kernel_rfl) ⟨k1.drew, HB.out.drew⟩ (fun hS => ?_)
  clear k1
  have hS2 := hS
  obtain ⟨k1, hB⟩ := hS2
  replace HB := Lib.hid hB
  clear hB
  refine wpAnyH_take (i := 0) (oi := ⟨some 55, _, _, _, _, _⟩) (v := .int .i64 now) rfl (by kernel_rfl) (by kernel_rfl) (by kernel_rfl) (fun _ _ _ h => h) (yi_mv (Or.inl rfl) rfl rfl) hS ?_
  simp only [Act.put, List.setIfInBounds_toArray, List.set_cons_zero, List.set_cons_succ]
  refine wpAnyH_take (i := 1) (oi := ⟨some 56, _, _, _, _, _⟩) (v := .int .i64 t) rfl (by kernel_rfl) (by kernel_rfl) (by kernel_rfl) (fun _ _ _ h => h) (yi_mv (Or.inl rfl) rfl rfl) hS ?_
  simp only [Act.put, List.setIfInBounds_toArray, List.set_cons_zero, List.set_cons_succ]
  refine wpAnyH_take (i := 2) (oi := ⟨some 57, _, _, _, _, _⟩) (v := .int .i64 (now - t)) rfl (by kernel_rfl) (by kernel_rfl) (by kernel_rfl) (fun _ _ _ h => h) (yi_ok rfl (fun _ => by go_simp)) hS ?_
  simp only [Act.put, List.setIfInBounds_toArray, List.set_cons_zero, List.set_cons_succ]
  refine wpAnyH_take (i := 3) (oi := ⟨some 58, _, _, _, _, _⟩) (v := .agg (cfA c)) rfl (by kernel_rfl) (by kernel_rfl) (by kernel_rfl) (fun _ _ _ h => h) (yi_ld0 rfl rfl rfl (fun w' h => h.1) Try.underlying25 rfl cfInfo) hS ?_
  simp only [Act.put, List.setIfInBounds_toArray, List.set_cons_zero, List.set_cons_succ]
  refine anyH_call (i := 4) (op := ⟨some 59, _, _, _, _, _⟩) (by kernel_rfl) rfl rfl rfl Try.func24 (by kernel_rfl) rfl (HR.out _) rfl (fun w' hb => ⟨k1.keep hb, below_tr HB.out hb⟩) (fun w' hb hS2 => ?_)
  simp only [Act.put, List.setIfInBounds_toArray, List.set_cons_zero, List.set_cons_succ]
  clear hb
  replace hS := hS2
  clear hS2
  clear k1
  have hS2 := hS
  obtain ⟨k1, hB⟩ := hS2
  replace HB := Lib.hid hB
  clear hB
  refine wpAnyH_take (i := 5) (oi := ⟨some 60, _, _, _, _, _⟩) (v := .bool false) rfl (by kernel_rfl) (by kernel_rfl) (by kernel_rfl) (fun _ _ _ h => h) (yi_ok rfl (fun _ => by go_simp)) hS ?_
  simp only [Act.put, List.setIfInBounds_toArray, List.set_cons_zero, List.set_cons_succ]
  refine wpAnyH_take (i := 6) (oi := ⟨some 61, _, _, _, _, _⟩) (v := .bool false) rfl (by kernel_rfl) (by kernel_rfl) (by kernel_rfl) (fun _ _ _ h => h) (yi_mv (Or.inl rfl) rfl rfl) hS ?_
  simp only [Act.put, List.setIfInBounds_toArray, List.set_cons_zero, List.set_cons_succ]
  refine wpAnyH_take (i := 7) (oi := ⟨some 62, _, _, _, _, _⟩) (v := undef) rfl (by kernel_rfl) (by kernel_rfl) (by kernel_rfl) (fun _ _ _ h => h) (yi_no (by kernel_rfl)) hS ?_
  simp only [Act.put, List.setIfInBounds_toArray, List.set_cons_zero, List.set_cons_succ]
  refine wpAnyH_take (i := 8) (oi := ⟨some 63, _, _, _, _, _⟩) (v := undef) rfl (by kernel_rfl) (by kernel_rfl) (by kernel_rfl) (fun _ _ _ h => h) (yi_no (by kernel_rfl)) hS ?_
  simp only [Act.put, List.setIfInBounds_toArray, List.set_cons_zero, List.set_cons_succ]
  refine wpAnyH_take (i := 9) (oi := ⟨some 64, _, _, _, _, _⟩) (v := undef) rfl (by kernel_rfl) (by kernel_rfl) (by kernel_rfl) (fun _ _ _ h => h) (yi_no (by kernel_rfl)) hS ?_
  simp only [Act.put, List.setIfInBounds_toArray, List.set_cons_zero, List.set_cons_succ]
  refine wpAnyH_take (i := 10) (oi := ⟨some 65, _, _, _, _, _⟩) (v := undef) rfl (by kernel_rfl) (by kernel_rfl) (by kernel_rfl) (fun _ _ _ h => h) (yi_no (by kernel_rfl)) hS ?_
  simp only [Act.put, List.setIfInBounds_toArray, List.set_cons_zero, List.set_cons_succ]
  refine wpAnyH_take (i := 11) (oi := ⟨some 66, _, _, _, _, _⟩) (v := undef) rfl (by kernel_rfl) (by kernel_rfl) (by kernel_rfl) (fun _ _ _ h => h) (yi_no (by kernel_rfl)) hS ?_
  simp only [Act.put, List.setIfInBounds_toArray, List.set_cons_zero, List.set_cons_succ]
  refine wpAnyH_take (i := 12) (oi := ⟨some 67, _, _, _, _, _⟩) (v := undef) rfl (by kernel_rfl) (by kernel_rfl) (by kernel_rfl) (fun _ _ _ h => h) (yi_no (by kernel_rfl)) hS ?_
  simp only [Act.put, List.setIfInBounds_toArray, List.set_cons_zero, List.set_cons_succ]
  refine wpAnyH_take (i := 13) (oi := ⟨some 68, _, _, _, _, _⟩) (v := undef) rfl (by kernel_rfl) (by kernel_rfl) (by kernel_rfl) (fun _ _ _ h => h) (yi_no (by kernel_rfl)) hS ?_
  simp only [Act.put, List.setIfInBounds_toArray, List.set_cons_zero, List.set_cons_succ]
  refine wpAnyH_take (i := 14) (oi := ⟨some 69, _, _, _, _, _⟩) (v := undef) rfl (by kernel_rfl) (by kernel_rfl) (by kernel_rfl) (fun _ _ _ h => h) (yi_no (by kernel_rfl)) hS ?_
  simp only [Act.put, List.setIfInBounds_toArray, List.set_cons_zero, List.set_cons_succ]
  refine wpAnyH_take (i := 15) (oi := ⟨some 70, _, _, _, _, _⟩) (v := undef) rfl (by kernel_rfl) (by kernel_rfl) (by kernel_rfl) (fun _ _ _ h => h) (yi_no (by kernel_rfl)) hS ?_
  simp only [Act.put, List.setIfInBounds_toArray, List.set_cons_zero, List.set_cons_succ]
  refine wpAnyH_take (i := 16) (oi := ⟨some 71, _, _, _, _, _⟩) (v := undef) rfl (by kernel_rfl) (by kernel_rfl) (by kernel_rfl) (fun _ _ _ h => h) (yi_no (by kernel_rfl)) hS ?_
  simp only [Act.put, List.setIfInBounds_toArray, List.set_cons_zero, List.set_cons_succ]
  refine wpAnyH_take (i := 17) (oi := ⟨some 72, _, _, _, _, _⟩) (v := undef) rfl (by kernel_rfl) (by kernel_rfl) (by kernel_rfl) (fun _ _ _ h => h) (yi_no (by kernel_rfl)) hS ?_
  simp only [Act.put, List.setIfInBounds_toArray, List.set_cons_zero, List.set_cons_succ]
  refine wpAnyH_take (i := 18) (oi := ⟨some 73, _, _, _, _, _⟩) (v := undef) rfl (by kernel_rfl) (by kernel_rfl) (by kernel_rfl) (fun _ _ _ h => h) (yi_no (by kernel_rfl)) hS ?_
  simp only [Act.put, List.setIfInBounds_toArray, List.set_cons_zero, List.set_cons_succ]
  refine wpAnyH_take (i := 19) (oi := ⟨some 74, _, _, _, _, _⟩) (v := .bool false) rfl (by kernel_rfl) (by kernel_rfl) (by kernel_rfl) (fun _ _ _ h => h) (yi_pick0 rfl rfl rfl rfl) hS ?_
  simp only [Act.put, List.setIfInBounds_toArray, List.set_cons_zero, List.set_cons_succ]
  refine wpAnyH_done (by kernel_rfl) ?_ _
  clear hS
  go_wp2_with (first
      | ((with_reducible refine at_slot 77 ?_); refine wl_ld0 rfl rfl rfl k1 Try.underlying25 rfl cfInfo ?_)
      | ((with_reducible refine at_slot 79 ?_); refine wl_call rfl rfl Try.func14 (by kernel_rfl) rfl (HF1.out _) rfl ?_; intro V7 hb; replace k1 := k1.keep hb; replace HB := Lib.hid (below_tr HB.out hb); clear hb)
      | ((with_reducible refine at_slot 87 ?_); refine wl_ld1 (v := .int .i64 c.w1) rfl rfl rfl k1 Try.underlying2 rfl rfl ?_)
      | ((with_reducible refine at_slot 88 ?_); refine wl_call rfl rfl Try.func27 (by kernel_rfl) rfl (of_at Q1.out.1 Q1.out.2 _) rfl ?_; intro V8 hb; replace k1 := k1.keep hb; replace HB := Lib.hid (below_tr HB.out hb); clear hb)
      | ((with_reducible refine at_slot 97 ?_); refine wl_ld1 (v := .int .i64 c.w0) rfl rfl rfl k1 Try.underlying2 rfl rfl ?_)
      | ((with_reducible refine at_slot 98 ?_); refine wl_call rfl rfl Try.func27 (by kernel_rfl) rfl (of_at Q0.out.1 Q0.out.2 _) rfl ?_; intro V9 hb; replace k1 := k1.keep hb; replace HB := Lib.hid (below_tr HB.out hb); clear hb)
      | ((with_reducible refine at_slot 106 ?_); refine wl_ld1 (v := .int .i64 c.w1) rfl rfl rfl k1 Try.underlying2 rfl rfl ?_)
      | ((with_reducible refine at_slot 107 ?_); refine wl_call rfl rfl Try.func27 (by kernel_rfl) rfl (of_at (if_pos P1.out) (if_pos P1.out) _) rfl ?_; intro V10 hb; replace k1 := k1.keep hb; replace HB := Lib.hid (below_tr HB.out hb); clear hb)
      | ((with_reducible refine at_slot 115 ?_); refine wl_ld1 (v := .int .i64 c.w1) rfl rfl rfl k1 Try.underlying2 rfl rfl ?_)
      | ((with_reducible refine at_slot 116 ?_); refine wl_call rfl rfl Try.func29 (by kernel_rfl) rfl (beg9_at (if_pos B1.out) (if_pos B1.out) _) rfl ?_; intro V11 hb; replace k1 := k1.keep hb; replace HB := Lib.hid (below_tr HB.out hb); clear hb))
  refine wp_region_held_drew (S := fun w' => Blk w' g1 25 (cfA c) ∧ Below w.heap.size w w') (by kernel_rfl) ⟨k1.drew, HB.out.drew⟩ (fun hS => ?_)
  clear k1
  have hS2 := hS
  obtain ⟨k1, hB⟩ := hS2
  replace HB := Lib.hid hB
  clear hB
  refine wpAnyH_take (i := 0) (oi := ⟨some 119, _, _, _, _, _⟩) (v := .int .i64 0) rfl (by kernel_rfl) (by kernel_rfl) (by kernel_rfl) (fun _ _ _ h => h) (yi_mv (Or.inl rfl) rfl rfl) hS ?_
  simp only [Act.put, List.setIfInBounds_toArray, List.set_cons_zero, List.set_cons_succ]
  refine wpAnyH_take (i := 1) (oi := ⟨some 120, _, _, _, _, _⟩) (v := .bool false) rfl (by kernel_rfl) (by kernel_rfl) (by kernel_rfl) (fun _ _ _ h => h) (yi_ok rfl (fun _ => by go_simp)) hS ?_
  simp only [Act.put, List.setIfInBounds_toArray, List.set_cons_zero, List.set_cons_succ]
  refine wpAnyH_take (i := 2) (oi := ⟨some 121, _, _, _, _, _⟩) (v := .bool false) rfl (by kernel_rfl) (by kernel_rfl) (by kernel_rfl) (fun _ _ _ h => h) (yi_mv (Or.inl rfl) rfl rfl) hS ?_
  simp only [Act.put, List.setIfInBounds_toArray, List.set_cons_zero, List.set_cons_succ]
  refine wpAnyH_take (i := 3) (oi := ⟨some 122, _, _, _, _, _⟩) (v := .int .i64 0) rfl (by kernel_rfl) (by kernel_rfl) (by kernel_rfl) (fun _ _ _ h => h) (yi_mv (Or.inl rfl) (by kernel_rfl) rfl) hS ?_
  simp only [Act.put, List.setIfInBounds_toArray, List.set_cons_zero, List.set_cons_succ]
  refine wpAnyH_take (i := 4) (oi := ⟨some 123, _, _, _, _, _⟩) (v := .bool false) rfl (by kernel_rfl) (by kernel_rfl) (by kernel_rfl) (fun _ _ _ h => h) (yi_ok (by kernel_rfl) (fun _ => by go_simp)) hS ?_
  simp only [Act.put, List.setIfInBounds_toArray, List.set_cons_zero, List.set_cons_succ]
  refine wpAnyH_take (i := 5) (oi := ⟨some 124, _, _, _, _, _⟩) (v := .bool false) rfl (by kernel_rfl) (by kernel_rfl) (by kernel_rfl) (fun _ _ _ h => h) (yi_pick0 rfl rfl rfl rfl) hS ?_
  simp only [Act.put, List.setIfInBounds_toArray, List.set_cons_zero, List.set_cons_succ]
  refine wpAnyH_take (i := 6) (oi := ⟨some 125, _, _, _, _, _⟩) (v := .bool false) rfl (by kernel_rfl) (by kernel_rfl) (by kernel_rfl) (fun _ _ _ h => h) (yi_mv (Or.inl rfl) rfl rfl) hS ?_
  simp only [Act.put, List.setIfInBounds_toArray, List.set_cons_zero, List.set_cons_succ]
  refine wpAnyH_take (i := 7) (oi := ⟨some 126, _, _, _, _, _⟩) (v := .int .i64 0) rfl (by kernel_rfl) (by kernel_rfl) (by kernel_rfl) (fun _ _ _ h => h) (yi_mv (Or.inl rfl) (by kernel_rfl) rfl) hS ?_
  simp only [Act.put, List.setIfInBounds_toArray, List.set_cons_zero, List.set_cons_succ]
  refine wpAnyH_take (i := 8) (oi := ⟨some 127, _, _, _, _, _⟩) (v := .bool false) rfl (by kernel_rfl) (by kernel_rfl) (by kernel_rfl) (fun _ _ _ h => h) (yi_ok (by kernel_rfl) (fun _ => by go_simp)) hS ?_
  simp only [Act.put, List.setIfInBounds_toArray, List.set_cons_zero, List.set_cons_succ]
  refine wpAnyH_take (i := 9) (oi := ⟨some 128, _, _, _, _, _⟩) (v := .bool false) rfl (by kernel_rfl) (by kernel_rfl) (by kernel_rfl) (fun _ _ _ h => h) (yi_pick0 rfl rfl rfl rfl) hS ?_
  simp only [Act.put, List.setIfInBounds_toArray, List.set_cons_zero, List.set_cons_succ]
  refine wpAnyH_take (i := 10) (oi := ⟨some 129, _, _, _, _, _⟩) (v := .bool false) rfl (by kernel_rfl) (by kernel_rfl) (by kernel_rfl) (fun _ _ _ h => h) (yi_mv (Or.inl rfl) rfl rfl) hS ?_
  simp only [Act.put, List.setIfInBounds_toArray, List.set_cons_zero, List.set_cons_succ]
  refine wpAnyH_take (i := 11) (oi := ⟨some 130, _, _, _, _, _⟩) (v := .int .i64 0) rfl (by kernel_rfl) (by kernel_rfl) (by kernel_rfl) (fun _ _ _ h => h) (yi_mv (Or.inl rfl) (by kernel_rfl) rfl) hS ?_
  simp only [Act.put, List.setIfInBounds_toArray, List.set_cons_zero, List.set_cons_succ]
  refine wpAnyH_take (i := 12) (oi := ⟨some 131, _, _, _, _, _⟩) (v := .bool false) rfl (by kernel_rfl) (by kernel_rfl) (by kernel_rfl) (fun _ _ _ h => h) (yi_ok (by kernel_rfl) (fun _ => by go_simp)) hS ?_
  simp only [Act.put, List.setIfInBounds_toArray, List.set_cons_zero, List.set_cons_succ]
  refine wpAnyH_take (i := 13) (oi := ⟨some 132, _, _, _, _, _⟩) (v := .bool false) rfl (by kernel_rfl) (by kernel_rfl) (by kernel_rfl) (fun _ _ _ h => h) (yi_pick0 rfl rfl rfl rfl) hS ?_
  simp only [Act.put, List.setIfInBounds_toArray, List.set_cons_zero, List.set_cons_succ]
  refine wpAnyH_take (i := 14) (oi := ⟨some 133, _, _, _, _, _⟩) (v := .bool false) rfl (by kernel_rfl) (by kernel_rfl) (by kernel_rfl) (fun _ _ _ h => h) (yi_mv (Or.inl rfl) rfl rfl) hS ?_
  simp only [Act.put, List.setIfInBounds_toArray, List.set_cons_zero, List.set_cons_succ]
  refine wpAnyH_take (i := 15) (oi := ⟨some 134, _, _, _, _, _⟩) (v := .int .i64 q0) rfl (by kernel_rfl) (by kernel_rfl) (by kernel_rfl) (fun _ _ _ h => h) (yi_mv (Or.inl rfl) (by kernel_rfl) rfl) hS ?_
  simp only [Act.put, List.setIfInBounds_toArray, List.set_cons_zero, List.set_cons_succ]
  refine wpAnyH_take (i := 16) (oi := ⟨some 135, _, _, _, _, _⟩) (v := .int .i64 f1) rfl (by kernel_rfl) (by kernel_rfl) (by kernel_rfl) (fun _ _ _ h => h) (yi_mv (Or.inl rfl) (by kernel_rfl) rfl) hS ?_
  simp only [Act.put, List.setIfInBounds_toArray, List.set_cons_zero, List.set_cons_succ]
  refine wpAnyH_take (i := 17) (oi := ⟨some 136, _, _, _, _, _⟩) (v := .int .i64 q1) rfl (by kernel_rfl) (by kernel_rfl) (by kernel_rfl) (fun _ _ _ h => h) (yi_ok (by kernel_rfl) (fun _ => by go_simp)) hS ?_
  simp only [Act.put, List.setIfInBounds_toArray, List.set_cons_zero, List.set_cons_succ]
  refine wpAnyH_take (i := 18) (oi := ⟨some 137, _, _, _, _, _⟩) (v := .int .i64 q1) rfl (by kernel_rfl) (by kernel_rfl) (by kernel_rfl) (fun _ _ _ h => h) (yi_mv (Or.inl rfl) (by kernel_rfl) rfl) hS ?_
  simp only [Act.put, List.setIfInBounds_toArray, List.set_cons_zero, List.set_cons_succ]
  refine wpAnyH_take (i := 19) (oi := ⟨some 138, _, _, _, _, _⟩) (v := .bool false) rfl (by kernel_rfl) (by kernel_rfl) (by kernel_rfl) (fun _ _ _ h => h) (yi_ok (by kernel_rfl) (fun _ => by go_simp)) hS ?_
  simp only [Act.put, List.setIfInBounds_toArray, List.set_cons_zero, List.set_cons_succ]
  refine wpAnyH_take (i := 20) (oi := ⟨some 139, _, _, _, _, _⟩) (v := .bool false) rfl (by kernel_rfl) (by kernel_rfl) (by kernel_rfl) (fun _ _ _ h => h) (yi_pick0 rfl rfl rfl rfl) hS ?_
  simp only [Act.put, List.setIfInBounds_toArray, List.set_cons_zero, List.set_cons_succ]
  refine wpAnyH_take (i := 21) (oi := ⟨some 140, _, _, _, _, _⟩) (v := .bool false) rfl (by kernel_rfl) (by kernel_rfl) (by kernel_rfl) (fun _ _ _ h => h) (yi_mv (Or.inl rfl) rfl rfl) hS ?_
  simp only [Act.put, List.setIfInBounds_toArray, List.set_cons_zero, List.set_cons_succ]
  refine wpAnyH_take (i := 22) (oi := ⟨some 141, _, _, _, _, _⟩) (v := .int .i64 (now / c.w1 * c.w1)) rfl (by kernel_rfl) (by kernel_rfl) (by kernel_rfl) (fun _ _ _ h => h) (yi_mv (Or.inl rfl) (by kernel_rfl) rfl) hS ?_
  simp only [Act.put, List.setIfInBounds_toArray, List.set_cons_zero, List.set_cons_succ]
  refine wpAnyH_take (i := 23) (oi := ⟨some 142, _, _, _, _, _⟩) (v := .int .i64 now) rfl (by kernel_rfl) (by kernel_rfl) (by kernel_rfl) (fun _ _ _ h => h) (yi_mv (Or.inl rfl) (by kernel_rfl) rfl) hS ?_
  simp only [Act.put, List.setIfInBounds_toArray, List.set_cons_zero, List.set_cons_succ]
  refine wpAnyH_take (i := 24) (oi := ⟨some 143, _, _, _, _, _⟩) (v := .int .i64 1) rfl (by kernel_rfl) (by kernel_rfl) (by kernel_rfl) (fun _ _ _ h => h) (yi_mv (Or.inl rfl) (by kernel_rfl) rfl) hS ?_
  simp only [Act.put, List.setIfInBounds_toArray, List.set_cons_zero, List.set_cons_succ]
  refine wpAnyH_take (i := 25) (oi := ⟨some 144, _, _, _, _, _⟩) (v := .int .i64 0) rfl (by kernel_rfl) (by kernel_rfl) (by kernel_rfl) (fun _ _ _ h => h) (yi_ok (by kernel_rfl) (fun _ => by go_simp)) hS ?_
  simp only [Act.put, List.setIfInBounds_toArray, List.set_cons_zero, List.set_cons_succ]
  refine wpAnyH_take (i := 26) (oi := ⟨some 145, _, _, _, _, _⟩) (v := .pointer (some ⟨g1, 1, none⟩)) rfl (by kernel_rfl) (by kernel_rfl) (by kernel_rfl) (fun _ _ _ h => h) (yi_ok (by kernel_rfl) (fun _ => by go_simp)) hS ?_
  simp only [Act.put, List.setIfInBounds_toArray, List.set_cons_zero, List.set_cons_succ]
  refine wpAnyH_take (i := 27) (oi := ⟨some 146, _, _, _, _, _⟩) (v := .pointer (some ⟨g1, 1, none⟩)) rfl (by kernel_rfl) (by kernel_rfl) (by kernel_rfl) (fun _ _ _ h => h) (yi_ok (by kernel_rfl) (fun _ => by go_simp)) hS ?_
  simp only [Act.put, List.setIfInBounds_toArray, List.set_cons_zero, List.set_cons_succ]
  refine wpAnyH_take (i := 28) (oi := ⟨some 147, _, _, _, _, _⟩) (v := .int .i64 c.w0) rfl (by kernel_rfl) (by kernel_rfl) (by kernel_rfl) (fun _ _ _ h => h) (yi_ld1 (v := .int .i64 c.w0) rfl (by kernel_rfl) rfl (fun w' h => h.1) Try.underlying2 rfl rfl) hS ?_
  simp only [Act.put, List.setIfInBounds_toArray, List.set_cons_zero, List.set_cons_succ]
  refine wpAnyH_take (i := 29) (oi := ⟨some 148, _, _, _, _, _⟩) (v := .int .i64 1) rfl (by kernel_rfl) (by kernel_rfl) (by kernel_rfl) (fun _ _ _ h => h) (yi_mv (Or.inl rfl) (by kernel_rfl) rfl) hS ?_
  simp only [Act.put, List.setIfInBounds_toArray, List.set_cons_zero, List.set_cons_succ]
  refine wpAnyH_take (i := 30) (oi := ⟨some 149, _, _, _, _, _⟩) (v := .int .i64 0) rfl (by kernel_rfl) (by kernel_rfl) (by kernel_rfl) (fun _ _ _ h => h) (yi_ok (by kernel_rfl) (fun _ => by go_simp)) hS ?_
  simp only [Act.put, List.setIfInBounds_toArray, List.set_cons_zero, List.set_cons_succ]
  refine wpAnyH_take (i := 31) (oi := ⟨some 150, _, _, _, _, _⟩) (v := .pointer (some ⟨g1, 4, none⟩)) rfl (by kernel_rfl) (by kernel_rfl) (by kernel_rfl) (fun _ _ _ h => h) (yi_ok (by kernel_rfl) (fun _ => by go_simp)) hS ?_
  simp only [Act.put, List.setIfInBounds_toArray, List.set_cons_zero, List.set_cons_succ]
  refine wpAnyH_take (i := 32) (oi := ⟨some 151, _, _, _, _, _⟩) (v := .pointer (some ⟨g1, 4, none⟩)) rfl (by kernel_rfl) (by kernel_rfl) (by kernel_rfl) (fun _ _ _ h => h) (yi_ok (by kernel_rfl) (fun _ => by go_simp)) hS ?_
  simp only [Act.put, List.setIfInBounds_toArray, List.set_cons_zero, List.set_cons_succ]
  refine wpAnyH_take (i := 33) (oi := ⟨some 152, _, _, _, _, _⟩) (v := .int .i64 c.n0) rfl (by kernel_rfl) (by kernel_rfl) (by kernel_rfl) (fun _ _ _ h => h) (yi_ld1 (v := .int .i64 c.n0) rfl (by kernel_rfl) rfl (fun w' h => h.1) Try.underlying3 rfl rfl) hS ?_
  simp only [Act.put, List.setIfInBounds_toArray, List.set_cons_zero, List.set_cons_succ]
  refine anyH_call (i := 34) (op := ⟨some 153, _, _, _, _, _⟩) (by kernel_rfl) rfl rfl (by kernel_rfl) Try.func28 (by kernel_rfl) rfl (gone_at N1.out _) rfl (fun w' hb => ⟨k1.keep hb, below_tr HB.out hb⟩) (fun w' hb hS2 => ?_)
  simp only [Act.put, List.setIfInBounds_toArray, List.set_cons_zero, List.set_cons_succ]
  clear hb
  replace hS := hS2
  clear hS2
  clear k1
  have hS2 := hS
  obtain ⟨k1, hB⟩ := hS2
  replace HB := Lib.hid hB
  clear hB
  refine wpAnyH_take (i := 35) (oi := ⟨some 154, _, _, _, _, _⟩) (v := .bool false) rfl (by kernel_rfl) (by kernel_rfl) (by kernel_rfl) (fun _ _ _ h => h) (yi_pick0 rfl rfl rfl rfl) hS ?_
  simp only [Act.put, List.setIfInBounds_toArray, List.set_cons_zero, List.set_cons_succ]
  refine wpAnyH_done (by kernel_rfl) ?_ _
  clear hS
  go_wp2_with fail
  rw [rounds_succ]
  go_wp2_with fail
  refine wp_region_held_drew (S := fun w' => Blk w' g1 25 (cfA c) ∧ Below w.heap.size w w') (by kernel_rfl) ⟨k1.drew, HB.out.drew⟩ (fun hS => ?_)
  clear k1
  have hS2 := hS
  obtain ⟨k1, hB⟩ := hS2
  replace HB := Lib.hid hB
  clear hB
  refine wpAnyH_take (i := 0) (oi := ⟨some 55, _, _, _, _, _⟩) (v := .int .i64 now) rfl (by kernel_rfl) (by kernel_rfl) (by kernel_rfl) (fun _ _ _ h => h) (yi_mv (Or.inl rfl) rfl rfl) hS ?_
  simp only [Act.put, List.setIfInBounds_toArray, List.set_cons_zero, List.set_cons_succ]
  refine wpAnyH_take (i := 1) (oi := ⟨some 56, _, _, _, _, _⟩) (v := .int .i64 t) rfl (by kernel_rfl) (by kernel_rfl) (by kernel_rfl) (fun _ _ _ h => h) (yi_mv (Or.inl rfl) rfl rfl) hS ?_
  simp only [Act.put, List.setIfInBounds_toArray, List.set_cons_zero, List.set_cons_succ]
  refine wpAnyH_take (i := 2) (oi := ⟨some 57, _, _, _, _, _⟩) (v := .int .i64 (now - t)) rfl (by kernel_rfl) (by kernel_rfl) (by kernel_rfl) (fun _ _ _ h => h) (yi_ok rfl (fun _ => by go_simp)) hS ?_
  simp only [Act.put, List.setIfInBounds_toArray, List.set_cons_zero, List.set_cons_succ]
  refine wpAnyH_take (i := 3) (oi := ⟨some 58, _, _, _, _, _⟩) (v := .agg (cfA c)) rfl (by kernel_rfl) (by kernel_rfl) (by kernel_rfl) (fun _ _ _ h => h) (yi_ld0 rfl rfl rfl (fun w' h => h.1) Try.underlying25 rfl cfInfo) hS ?_
  simp only [Act.put, List.setIfInBounds_toArray, List.set_cons_zero, List.set_cons_succ]
  refine anyH_call (i := 4) (op := ⟨some 59, _, _, _, _, _⟩) (by kernel_rfl) rfl rfl rfl Try.func24 (by kernel_rfl) rfl (HR.out _) rfl (fun w' hb => ⟨k1.keep hb, below_tr HB.out hb⟩) (fun w' hb hS2 => ?_)
  simp only [Act.put, List.setIfInBounds_toArray, List.set_cons_zero, List.set_cons_succ]
  clear hb
  replace hS := hS2
  clear hS2
  clear k1
  have hS2 := hS
  obtain ⟨k1, hB⟩ := hS2
  replace HB := Lib.hid hB
  clear hB
  refine wpAnyH_take (i := 5) (oi := ⟨some 60, _, _, _, _, _⟩) (v := .bool false) rfl (by kernel_rfl) (by kernel_rfl) (by kernel_rfl) (fun _ _ _ h => h) (yi_ok rfl (fun _ => by go_simp)) hS ?_
  simp only [Act.put, List.setIfInBounds_toArray, List.set_cons_zero, List.set_cons_succ]
  refine wpAnyH_take (i := 6) (oi := ⟨some 61, _, _, _, _, _⟩) (v := .bool false) rfl (by kernel_rfl) (by kernel_rfl) (by kernel_rfl) (fun _ _ _ h => h) (yi_mv (Or.inl rfl) rfl rfl) hS ?_
  simp only [Act.put, List.setIfInBounds_toArray, List.set_cons_zero, List.set_cons_succ]
  refine wpAnyH_take (i := 7) (oi := ⟨some 62, _, _, _, _, _⟩) (v := undef) rfl (by kernel_rfl) (by kernel_rfl) (by kernel_rfl) (fun _ _ _ h => h) (yi_no (by kernel_rfl)) hS ?_
  simp only [Act.put, List.setIfInBounds_toArray, List.set_cons_zero, List.set_cons_succ]
  refine wpAnyH_take (i := 8) (oi := ⟨some 63, _, _, _, _, _⟩) (v := undef) rfl (by kernel_rfl) (by kernel_rfl) (by kernel_rfl) (fun _ _ _ h => h) (yi_no (by kernel_rfl)) hS ?_
  simp only [Act.put, List.setIfInBounds_toArray, List.set_cons_zero, List.set_cons_succ]
  refine wpAnyH_take (i := 9) (oi := ⟨some 64, _, _, _, _, _⟩) (v := undef) rfl (by kernel_rfl) (by kernel_rfl) (by kernel_rfl) (fun _ _ _ h => h) (yi_no (by kernel_rfl)) hS ?_
  simp only [Act.put, List.setIfInBounds_toArray, List.set_cons_zero, List.set_cons_succ]
  refine wpAnyH_take (i := 10) (oi := ⟨some 65, _, _, _, _, _⟩) (v := undef) rfl (by kernel_rfl) (by kernel_rfl) (by kernel_rfl) (fun _ _ _ h => h) (yi_no (by kernel_rfl)) hS ?_
  simp only [Act.put, List.setIfInBounds_toArray, List.set_cons_zero, List.set_cons_succ]
  refine wpAnyH_take (i := 11) (oi := ⟨some 66, _, _, _, _, _⟩) (v := undef) rfl (by kernel_rfl) (by kernel_rfl) (by kernel_rfl) (fun _ _ _ h => h) (yi_no (by kernel_rfl)) hS ?_
  simp only [Act.put, List.setIfInBounds_toArray, List.set_cons_zero, List.set_cons_succ]
  refine wpAnyH_take (i := 12) (oi := ⟨some 67, _, _, _, _, _⟩) (v := undef) rfl (by kernel_rfl) (by kernel_rfl) (by kernel_rfl) (fun _ _ _ h => h) (yi_no (by kernel_rfl)) hS ?_
  simp only [Act.put, List.setIfInBounds_toArray, List.set_cons_zero, List.set_cons_succ]
  refine wpAnyH_take (i := 13) (oi := ⟨some 68, _, _, _, _, _⟩) (v := undef) rfl (by kernel_rfl) (by kernel_rfl) (by kernel_rfl) (fun _ _ _ h => h) (yi_no (by kernel_rfl)) hS ?_
  simp only [Act.put, List.setIfInBounds_toArray, List.set_cons_zero, List.set_cons_succ]
  refine wpAnyH_take (i := 14) (oi := ⟨some 69, _, _, _, _, _⟩) (v := undef) rfl (by kernel_rfl) (by kernel_rfl) (by kernel_rfl) (fun _ _ _ h => h) (yi_no (by kernel_rfl)) hS ?_
  simp only [Act.put, List.setIfInBounds_toArray, List.set_cons_zero, List.set_cons_succ]
  refine wpAnyH_take (i := 15) (oi := ⟨some 70, _, _, _, _, _⟩) (v := undef) rfl (by kernel_rfl) (by kernel_rfl) (by kernel_rfl) (fun _ _ _ h => h) (yi_no (by kernel_rfl)) hS ?_
  simp only [Act.put, List.setIfInBounds_toArray, List.set_cons_zero, List.set_cons_succ]
  refine wpAnyH_take (i := 16) (oi := ⟨some 71, _, _, _, _, _⟩) (v := undef) rfl (by kernel_rfl) (by kernel_rfl) (by kernel_rfl) (fun _ _ _ h => h) (yi_no (by kernel_rfl)) hS ?_
  simp only [Act.put, List.setIfInBounds_toArray, List.set_cons_zero, List.set_cons_succ]
  refine wpAnyH_take (i := 17) (oi := ⟨some 72, _, _, _, _, _⟩) (v := undef) rfl (by kernel_rfl) (by kernel_rfl) (by kernel_rfl) (fun _ _ _ h => h) (yi_no (by kernel_rfl)) hS ?_
  simp only [Act.put, List.setIfInBounds_toArray, List.set_cons_zero, List.set_cons_succ]
  refine wpAnyH_take (i := 18) (oi := ⟨some 73, _, _, _, _, _⟩) (v := undef) rfl (by kernel_rfl) (by kernel_rfl) (by kernel_rfl) (fun _ _ _ h => h) (yi_no (by kernel_rfl)) hS ?_
  simp only [Act.put, List.setIfInBounds_toArray, List.set_cons_zero, List.set_cons_succ]
  refine wpAnyH_take (i := 19) (oi := ⟨some 74, _, _, _, _, _⟩) (v := .bool false) rfl (by kernel_rfl) (by kernel_rfl) (by kernel_rfl) (fun _ _ _ h => h) (yi_pick0 rfl rfl rfl rfl) hS ?_
  simp only [Act.put, List.setIfInBounds_toArray, List.set_cons_zero, List.set_cons_succ]
  refine wpAnyH_done (by kernel_rfl) ?_ _
  clear hS
  go_wp2_with (first
      | ((with_reducible refine at_slot 77 ?_); refine wl_ld0 rfl rfl rfl k1 Try.underlying25 rfl cfInfo ?_)
      | ((with_reducible refine at_slot 79 ?_); refine wl_call rfl rfl Try.func14 (by kernel_rfl) rfl (HF2.out _) rfl ?_; intro V14 hb; replace k1 := k1.keep hb; replace HB := Lib.hid (below_tr HB.out hb); clear hb)
      | ((with_reducible refine at_slot 87 ?_); refine wl_ld1 (v := .int .i64 c.w2) rfl rfl rfl k1 Try.underlying2 rfl rfl ?_)
      | ((with_reducible refine at_slot 88 ?_); refine wl_call rfl rfl Try.func27 (by kernel_rfl) rfl (of_at Q2.out.1 Q2.out.2 _) rfl ?_; intro V15 hb; replace k1 := k1.keep hb; replace HB := Lib.hid (below_tr HB.out hb); clear hb)
      | ((with_reducible refine at_slot 97 ?_); refine wl_ld1 (v := .int .i64 c.w1) rfl rfl rfl k1 Try.underlying2 rfl rfl ?_)
      | ((with_reducible refine at_slot 98 ?_); refine wl_call rfl rfl Try.func27 (by kernel_rfl) rfl (of_at Q1.out.1 Q1.out.2 _) rfl ?_; intro V16 hb; replace k1 := k1.keep hb; replace HB := Lib.hid (below_tr HB.out hb); clear hb)
      | ((with_reducible refine at_slot 106 ?_); refine wl_ld1 (v := .int .i64 c.w2) rfl rfl rfl k1 Try.underlying2 rfl rfl ?_)
      | ((with_reducible refine at_slot 107 ?_); refine wl_call rfl rfl Try.func27 (by kernel_rfl) rfl (of_at (if_pos P2.out) (if_pos P2.out) _) rfl ?_; intro V17 hb; replace k1 := k1.keep hb; replace HB := Lib.hid (below_tr HB.out hb); clear hb)
      | ((with_reducible refine at_slot 115 ?_); refine wl_ld1 (v := .int .i64 c.w2) rfl rfl rfl k1 Try.underlying2 rfl rfl ?_)
      | ((with_reducible refine at_slot 116 ?_); refine wl_call rfl rfl Try.func29 (by kernel_rfl) rfl (beg9_at (if_pos B2.out) (if_pos B2.out) _) rfl ?_; intro V18 hb; replace k1 := k1.keep hb; replace HB := Lib.hid (below_tr HB.out hb); clear hb))
  refine wp_region_held_drew (S := fun w' => Blk w' g1 25 (cfA c) ∧ Below w.heap.size w w') (by kernel_rfl) ⟨k1.drew, HB.out.drew⟩ (fun hS => ?_)
  clear k1
  have hS2 := hS
  obtain ⟨k1, hB⟩ := hS2
  replace HB := Lib.hid hB
  clear hB
  refine wpAnyH_take (i := 0) (oi := ⟨some 119, _, _, _, _, _⟩) (v := .int .i64 0) rfl (by kernel_rfl) (by kernel_rfl) (by kernel_rfl) (fun _ _ _ h => h) (yi_mv (Or.inl rfl) rfl rfl) hS ?_
  simp only [Act.put, List.setIfInBounds_toArray, List.set_cons_zero, List.set_cons_succ]
  refine wpAnyH_take (i := 1) (oi := ⟨some 120, _, _, _, _, _⟩) (v := .bool false) rfl (by kernel_rfl) (by kernel_rfl) (by kernel_rfl) (fun _ _ _ h => h) (yi_ok rfl (fun _ => by go_simp)) hS ?_
  simp only [Act.put, List.setIfInBounds_toArray, List.set_cons_zero, List.set_cons_succ]
  refine wpAnyH_take (i := 2) (oi := ⟨some 121, _, _, _, _, _⟩) (v := .bool false) rfl (by kernel_rfl) (by kernel_rfl) (by kernel_rfl) (fun _ _ _ h => h) (yi_mv (Or.inl rfl) rfl rfl) hS ?_
  simp only [Act.put, List.setIfInBounds_toArray, List.set_cons_zero, List.set_cons_succ]
  refine wpAnyH_take (i := 3) (oi := ⟨some 122, _, _, _, _, _⟩) (v := .int .i64 0) rfl (by kernel_rfl) (by kernel_rfl) (by kernel_rfl) (fun _ _ _ h => h) (yi_mv (Or.inl rfl) (by kernel_rfl) rfl) hS ?_
  simp only [Act.put, List.setIfInBounds_toArray, List.set_cons_zero, List.set_cons_succ]
  refine wpAnyH_take (i := 4) (oi := ⟨some 123, _, _, _, _, _⟩) (v := .bool false) rfl (by kernel_rfl) (by kernel_rfl) (by kernel_rfl) (fun _ _ _ h => h) (yi_ok (by kernel_rfl) (fun _ => by go_simp)) hS ?_
  simp only [Act.put, List.setIfInBounds_toArray, List.set_cons_zero, List.set_cons_succ]
  refine wpAnyH_take (i := 5) (oi := ⟨some 124, _, _, _, _, _⟩) (v := .bool false) rfl (by kernel_rfl) (by kernel_rfl) (by kernel_rfl) (fun _ _ _ h => h) (yi_pick0 rfl rfl rfl rfl) hS ?_
  simp only [Act.put, List.setIfInBounds_toArray, List.set_cons_zero, List.set_cons_succ]
  refine wpAnyH_take (i := 6) (oi := ⟨some 125, _, _, _, _, _⟩) (v := .bool false) rfl (by kernel_rfl) (by kernel_rfl) (by kernel_rfl) (fun _ _ _ h => h) (yi_mv (Or.inl rfl) rfl rfl) hS ?_
  simp only [Act.put, List.setIfInBounds_toArray, List.set_cons_zero, List.set_cons_succ]
  refine wpAnyH_take (i := 7) (oi := ⟨some 126, _, _, _, _, _⟩) (v := .int .i64 0) rfl (by kernel_rfl) (by kernel_rfl) (by kernel_rfl) (fun _ _ _ h => h) (yi_mv (Or.inl rfl) (by kernel_rfl) rfl) hS ?_
  simp only [Act.put, List.setIfInBounds_toArray, List.set_cons_zero, List.set_cons_succ]
  refine wpAnyH_take (i := 8) (oi := ⟨some 127, _, _, _, _, _⟩) (v := .bool false) rfl (by kernel_rfl) (by kernel_rfl) (by kernel_rfl) (fun _ _ _ h => h) (yi_ok (by kernel_rfl) (fun _ => by go_simp)) hS ?_
  simp only [Act.put, List.setIfInBounds_toArray, List.set_cons_zero, List.set_cons_succ]
  refine wpAnyH_take (i := 9) (oi := ⟨some 128, _, _, _, _, _⟩) (v := .bool false) rfl (by kernel_rfl) (by kernel_rfl) (by kernel_rfl) (fun _ _ _ h => h) (yi_pick0 rfl rfl rfl rfl) hS ?_
  simp only [Act.put, List.setIfInBounds_toArray, List.set_cons_zero, List.set_cons_succ]
  refine wpAnyH_take (i := 10) (oi := ⟨some 129, _, _, _, _, _⟩) (v := .bool false) rfl (by kernel_rfl) (by kernel_rfl) (by kernel_rfl) (fun _ _ _ h => h) (yi_mv (Or.inl rfl) rfl rfl) hS ?_
  simp only [Act.put, List.setIfInBounds_toArray, List.set_cons_zero, List.set_cons_succ]
  refine wpAnyH_take (i := 11) (oi := ⟨some 130, _, _, _, _, _⟩) (v := .int .i64 0) rfl (by kernel_rfl) (by kernel_rfl) (by kernel_rfl) (fun _ _ _ h => h) (yi_mv (Or.inl rfl) (by kernel_rfl) rfl) hS ?_
  simp only [Act.put, List.setIfInBounds_toArray, List.set_cons_zero, List.set_cons_succ]
  refine wpAnyH_take (i := 12) (oi := ⟨some 131, _, _, _, _, _⟩) (v := .bool false) rfl (by kernel_rfl) (by kernel_rfl) (by kernel_rfl) (fun _ _ _ h => h) (yi_ok (by kernel_rfl) (fun _ => by go_simp)) hS ?_
  simp only [Act.put, List.setIfInBounds_toArray, List.set_cons_zero, List.set_cons_succ]
  refine wpAnyH_take (i := 13) (oi := ⟨some 132, _, _, _, _, _⟩) (v := .bool false) rfl (by kernel_rfl) (by kernel_rfl) (by kernel_rfl) (fun _ _ _ h => h) (yi_pick0 rfl rfl rfl rfl) hS ?_
  simp only [Act.put, List.setIfInBounds_toArray, List.set_cons_zero, List.set_cons_succ]
  refine wpAnyH_take (i := 14) (oi := ⟨some 133, _, _, _, _, _⟩) (v := .bool false) rfl (by kernel_rfl) (by kernel_rfl) (by kernel_rfl) (fun _ _ _ h => h) (yi_mv (Or.inl rfl) rfl rfl) hS ?_
  simp only [Act.put, List.setIfInBounds_toArray, List.set_cons_zero, List.set_cons_succ]
  refine wpAnyH_take (i := 15) (oi := ⟨some 134, _, _, _, _, _⟩) (v := .int .i64 q1) rfl (by kernel_rfl) (by kernel_rfl) (by kernel_rfl) (fun _ _ _ h => h) (yi_mv (Or.inl rfl) (by kernel_rfl) rfl) hS ?_
  simp only [Act.put, List.setIfInBounds_toArray, List.set_cons_zero, List.set_cons_succ]
  refine wpAnyH_take (i := 16) (oi := ⟨some 135, _, _, _, _, _⟩) (v := .int .i64 f2) rfl (by kernel_rfl) (by kernel_rfl) (by kernel_rfl) (fun _ _ _ h => h) (yi_mv (Or.inl rfl) (by kernel_rfl) rfl) hS ?_
  simp only [Act.put, List.setIfInBounds_toArray, List.set_cons_zero, List.set_cons_succ]
  refine wpAnyH_take (i := 17) (oi := ⟨some 136, _, _, _, _, _⟩) (v := .int .i64 q2) rfl (by kernel_rfl) (by kernel_rfl) (by kernel_rfl) (fun _ _ _ h => h) (yi_ok (by kernel_rfl) (fun _ => by go_simp)) hS ?_
  simp only [Act.put, List.setIfInBounds_toArray, List.set_cons_zero, List.set_cons_succ]
  refine wpAnyH_take (i := 18) (oi := ⟨some 137, _, _, _, _, _⟩) (v := .int .i64 q2) rfl (by kernel_rfl) (by kernel_rfl) (by kernel_rfl) (fun _ _ _ h => h) (yi_mv (Or.inl rfl) (by kernel_rfl) rfl) hS ?_
  simp only [Act.put, List.setIfInBounds_toArray, List.set_cons_zero, List.set_cons_succ]
  refine wpAnyH_take (i := 19) (oi := ⟨some 138, _, _, _, _, _⟩) (v := .bool false) rfl (by kernel_rfl) (by kernel_rfl) (by kernel_rfl) (fun _ _ _ h => h) (yi_ok (by kernel_rfl) (fun _ => by go_simp)) hS ?_
  simp only [Act.put, List.setIfInBounds_toArray, List.set_cons_zero, List.set_cons_succ]
  refine wpAnyH_take (i := 20) (oi := ⟨some 139, _, _, _, _, _⟩) (v := .bool false) rfl (by kernel_rfl) (by kernel_rfl) (by kernel_rfl) (fun _ _ _ h => h) (yi_pick0 rfl rfl rfl rfl) hS ?_
  simp only [Act.put, List.setIfInBounds_toArray, List.set_cons_zero, List.set_cons_succ]
  refine wpAnyH_take (i := 21) (oi := ⟨some 140, _, _, _, _, _⟩) (v := .bool false) rfl (by kernel_rfl) (by kernel_rfl) (by kernel_rfl) (fun _ _ _ h => h) (yi_mv (Or.inl rfl) rfl rfl) hS ?_
  simp only [Act.put, List.setIfInBounds_toArray, List.set_cons_zero, List.set_cons_succ]
  refine wpAnyH_take (i := 22) (oi := ⟨some 141, _, _, _, _, _⟩) (v := .int .i64 (now / c.w2 * c.w2)) rfl (by kernel_rfl) (by kernel_rfl) (by kernel_rfl) (fun _ _ _ h => h) (yi_mv (Or.inl rfl) (by kernel_rfl) rfl) hS ?_
  simp only [Act.put, List.setIfInBounds_toArray, List.set_cons_zero, List.set_cons_succ]
  refine wpAnyH_take (i := 23) (oi := ⟨some 142, _, _, _, _, _⟩) (v := .int .i64 now) rfl (by kernel_rfl) (by kernel_rfl) (by kernel_rfl) (fun _ _ _ h => h) (yi_mv (Or.inl rfl) (by kernel_rfl) rfl) hS ?_
  simp only [Act.put, List.setIfInBounds_toArray, List.set_cons_zero, List.set_cons_succ]
  refine wpAnyH_take (i := 24) (oi := ⟨some 143, _, _, _, _, _⟩) (v := .int .i64 2) rfl (by kernel_rfl) (by kernel_rfl) (by kernel_rfl) (fun _ _ _ h => h) (yi_mv (Or.inl rfl) (by kernel_rfl) rfl) hS ?_
  simp only [Act.put, List.setIfInBounds_toArray, List.set_cons_zero, List.set_cons_succ]
  refine wpAnyH_take (i := 25) (oi := ⟨some 144, _, _, _, _, _⟩) (v := .int .i64 1) rfl (by kernel_rfl) (by kernel_rfl) (by kernel_rfl) (fun _ _ _ h => h) (yi_ok (by kernel_rfl) (fun _ => by go_simp)) hS ?_
  simp only [Act.put, List.setIfInBounds_toArray, List.set_cons_zero, List.set_cons_succ]
  refine wpAnyH_take (i := 26) (oi := ⟨some 145, _, _, _, _, _⟩) (v := .pointer (some ⟨g1, 1, none⟩)) rfl (by kernel_rfl) (by kernel_rfl) (by kernel_rfl) (fun _ _ _ h => h) (yi_ok (by kernel_rfl) (fun _ => by go_simp)) hS ?_
  simp only [Act.put, List.setIfInBounds_toArray, List.set_cons_zero, List.set_cons_succ]
  refine wpAnyH_take (i := 27) (oi := ⟨some 146, _, _, _, _, _⟩) (v := .pointer (some ⟨g1, 2, none⟩)) rfl (by kernel_rfl) (by kernel_rfl) (by kernel_rfl) (fun _ _ _ h => h) (yi_ok (by kernel_rfl) (fun _ => by go_simp)) hS ?_
  simp only [Act.put, List.setIfInBounds_toArray, List.set_cons_zero, List.set_cons_succ]
  refine wpAnyH_take (i := 28) (oi := ⟨some 147, _, _, _, _, _⟩) (v := .int .i64 c.w1) rfl (by kernel_rfl) (by kernel_rfl) (by kernel_rfl) (fun _ _ _ h => h) (yi_ld1 (v := .int .i64 c.w1) rfl (by kernel_rfl) rfl (fun w' h => h.1) Try.underlying2 rfl rfl) hS ?_
  simp only [Act.put, List.setIfInBounds_toArray, List.set_cons_zero, List.set_cons_succ]
  refine wpAnyH_take (i := 29) (oi := ⟨some 148, _, _, _, _, _⟩) (v := .int .i64 2) rfl (by kernel_rfl) (by kernel_rfl) (by kernel_rfl) (fun _ _ _ h => h) (yi_mv (Or.inl rfl) (by kernel_rfl) rfl) hS ?_
  simp only [Act.put, List.setIfInBounds_toArray, List.set_cons_zero, List.set_cons_succ]
  refine wpAnyH_take (i := 30) (oi := ⟨some 149, _, _, _, _, _⟩) (v := .int .i64 1) rfl (by kernel_rfl) (by kernel_rfl) (by kernel_rfl) (fun _ _ _ h => h) (yi_ok (by kernel_rfl) (fun _ => by go_simp)) hS ?_
  simp only [Act.put, List.setIfInBounds_toArray, List.set_cons_zero, List.set_cons_succ]
  refine wpAnyH_take (i := 31) (oi := ⟨some 150, _, _, _, _, _⟩) (v := .pointer (some ⟨g1, 4, none⟩)) rfl (by kernel_rfl) (by kernel_rfl) (by kernel_rfl) (fun _ _ _ h => h) (yi_ok (by kernel_rfl) (fun _ => by go_simp)) hS ?_
  simp only [Act.put, List.setIfInBounds_toArray, List.set_cons_zero, List.set_cons_succ]
  refine wpAnyH_take (i := 32) (oi := ⟨some 151, _, _, _, _, _⟩) (v := .pointer (some ⟨g1, 5, none⟩)) rfl (by kernel_rfl) (by kernel_rfl) (by kernel_rfl) (fun _ _ _ h => h) (yi_ok (by kernel_rfl) (fun _ => by go_simp)) hS ?_
  simp only [Act.put, List.setIfInBounds_toArray, List.set_cons_zero, List.set_cons_succ]
  refine wpAnyH_take (i := 33) (oi := ⟨some 152, _, _, _, _, _⟩) (v := .int .i64 c.n1) rfl (by kernel_rfl) (by kernel_rfl) (by kernel_rfl) (fun _ _ _ h => h) (yi_ld1 (v := .int .i64 c.n1) rfl (by kernel_rfl) rfl (fun w' h => h.1) Try.underlying3 rfl rfl) hS ?_
  simp only [Act.put, List.setIfInBounds_toArray, List.set_cons_zero, List.set_cons_succ]
  refine anyH_call (i := 34) (op := ⟨some 153, _, _, _, _, _⟩) (by kernel_rfl) rfl rfl (by kernel_rfl) Try.func28 (by kernel_rfl) rfl (gone_at N2.out _) rfl (fun w' hb => ⟨k1.keep hb, below_tr HB.out hb⟩) (fun w' hb hS2 => ?_)
  simp only [Act.put, List.setIfInBounds_toArray, List.set_cons_zero, List.set_cons_succ]
  clear hb
  replace hS := hS2
  clear hS2
  clear k1
  have hS2 := hS
  obtain ⟨k1, hB⟩ := hS2
  replace HB := Lib.hid hB
  clear hB
  refine wpAnyH_take (i := 35) (oi := ⟨some 154, _, _, _, _, _⟩) (v := .bool false) rfl (by kernel_rfl) (by kernel_rfl) (by kernel_rfl) (fun _ _ _ h => h) (yi_pick0 rfl rfl rfl rfl) hS ?_
  simp only [Act.put, List.setIfInBounds_toArray, List.set_cons_zero, List.set_cons_succ]
  refine wpAnyH_done (by kernel_rfl) ?_ _
  clear hS
  go_wp2_with fail
  rw [rounds_succ]
  go_wp2_with fail
  go_ret
  exact ⟨rfl, HB.out⟩
theorem nest_any (c : Cf) (t now : Int) (w : World) : Calls Try.prog 5 #[.agg (cfA c), .int .i64 t, .int .i64 now] w fun e w' => e = .returned (.bool true) ∧ Below w.heap.size w w' := by
  by_cases h : CfOk c
  · by_cases ht : TimeOk t ∧ WidthOk 1
    · by_cases hn : TimeOk now ∧ WidthOk 1
      · by_cases ho : now - t < max (max (c.w0 * c.n0) (c.w1 * c.n1)) (c.w2 * c.n2)
        · exact nest_new h ht hn ho w
        · exact nest_old h ht hn (by omega) w
      · exact nest_now h ht hn w
    · exact nest_t h ht w
  · exact nest_no h w
end Go.Proofs.Yticmkepocacmhaa
