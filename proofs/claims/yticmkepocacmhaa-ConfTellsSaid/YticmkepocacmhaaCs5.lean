/-
  WALKS: package conf: Factor, Index, Home, Place, Size, Retention.
-/
import Derived.Test.YticmkepocacmhaaCc
namespace Go.Proofs.Yticmkepocacmhaa
open Go Go.RowKit

def facI (c : Cf) (t : Int) : Int := if CfOk c then (if t = 1 then c.w1 / c.w0 else if t = 2 then c.w2 / c.w1 else 0) else 0
def indI (c : Cf) : Int := if CfOk c then secI c.log 120 else 0
def homI (c : Cf) : Int := if CfOk c then 1 + secI c.log 120 + c.log else 0
def plcI (c : Cf) : Int := if CfOk c then placeI c else 0
def retI (c : Cf) : Int := if CfOk c then max (max (c.w0 * c.n0) (c.w1 * c.n1)) (c.w2 * c.n2) else 0
def sizeN (c : Cf) : Int := 1 + secI c.log 120 + c.log + 1 + c.cap * placeI c
def szI (c : Cf) : Int := if CfOk c ∧ sizeN c ≤ 16777216 then sizeN c else 0
def szE (c : Cf) : Int := if CfOk c then (if sizeN c ≤ 16777216 then 0 else 1) else 2
theorem rt_e {a b : Int} (h : a = b) : Ending.returned (.int .i64 a) = .returned (.int .i64 b) := by rw [h]
theorem log_bd {c : Cf} (h : CfOk c) : 6 ≤ c.log ∧ c.log ≤ 8192 := by
  have := place_bd h.1 h.2.1
  have := h.2.2.2
  omega
theorem sec120_bd {n : Int} (h0 : 1 ≤ n) (h1 : n ≤ 8192) : 1 ≤ secI n 120 ∧ secI n 120 ≤ 69 := by unfold secI; omega
theorem prod_bd {w n : Int} (hw : WidthOk w) (hn : SlotsOk n) : 1 ≤ w * n ∧ w * n ≤ 4503599627370496 := by
  obtain ⟨a, b⟩ := hw
  obtain ⟨d, e⟩ := hn
  have h1 := Int.mul_le_mul a d (by omega) (by omega)
  have h2 := Int.mul_le_mul b e (by omega) (by omega)
  omega
set_option maxHeartbeats 4000000 in
set_option maxRecDepth 100000 in
theorem fac_no {c : Cf} {t : Int} (h : ¬ CfOk c) (w : World) : Calls Try.prog 14 #[.agg (cfA c), .int .i64 t] w fun e w' => e = .returned (.int .i64 0) ∧ Below w.heap.size w w' := by
  have HC := Lib.hid h
  clear h
  have HB := Lib.hid (Below.refl w.heap.size w)
  go_enter Try.func14, Try.ntmps14
  go_wp2_with (first
      | ((with_reducible refine at_slot 2 ?_); refine wl_box (A := (cfA c)) rfl rfl rfl ?_; intro W1 g1 k1 hb hle; have L1 := Lib.hid (Nat.le_trans HB.out.size hle); replace HB := Lib.hid (below_tr HB.out hb); clear hb hle)
      | ((with_reducible refine at_slot 5 ?_); refine wl_ld0 rfl rfl rfl k1 Try.underlying25 rfl cfInfo ?_)
      | ((with_reducible refine at_slot 6 ?_); refine wl_call rfl rfl Try.func12 (by kernel_rfl) rfl (cck_no HC.out _) rfl ?_; intro V1 hb; replace k1 := k1.keep hb; replace HB := Lib.hid (below_tr HB.out hb); clear hb))
  go_ret
  exact ⟨rfl, HB.out⟩
set_option maxHeartbeats 4000000 in
set_option maxRecDepth 100000 in
theorem fac_out {c : Cf} {t : Int} (h : CfOk c) (ht : ¬ (0 ≤ t ∧ t ≤ 2)) (w : World) : Calls Try.prog 14 #[.agg (cfA c), .int .i64 t] w fun e w' => e = .returned (.int .i64 0) ∧ Below w.heap.size w w' := by
  have HC := Lib.hid h
  have HT := Lib.hid ht
  clear h ht
  have HB := Lib.hid (Below.refl w.heap.size w)
  go_enter Try.func14, Try.ntmps14
  go_wp2_with (first
      | ((with_reducible refine at_slot 2 ?_); refine wl_box (A := (cfA c)) rfl rfl rfl ?_; intro W1 g1 k1 hb hle; have L1 := Lib.hid (Nat.le_trans HB.out.size hle); replace HB := Lib.hid (below_tr HB.out hb); clear hb hle)
      | ((with_reducible refine at_slot 5 ?_); refine wl_ld0 rfl rfl rfl k1 Try.underlying25 rfl cfInfo ?_)
      | ((with_reducible refine at_slot 6 ?_); refine wl_call rfl rfl Try.func12 (by kernel_rfl) rfl (cck_yes HC.out _) rfl ?_; intro V1 hb; replace k1 := k1.keep hb; replace HB := Lib.hid (below_tr HB.out hb); clear hb)
      | ((with_reducible refine at_slot 10 ?_); refine wl_call rfl rfl Try.func36 (by kernel_rfl) rfl (bl9 (cn_no _ _ _ HT.out _)) rfl ?_; intro V2 hb; replace k1 := k1.keep hb; replace HB := Lib.hid (below_tr HB.out hb); clear hb))
  go_ret
  exact ⟨rfl, HB.out⟩
set_option maxHeartbeats 4000000 in
set_option maxRecDepth 100000 in
theorem fac_0 {c : Cf} (h : CfOk c) (w : World) : Calls Try.prog 14 #[.agg (cfA c), .int .i64 0] w fun e w' => e = .returned (.int .i64 (0)) ∧ Below w.heap.size w w' := by
  have HC := Lib.hid h
  have HF := Lib.hid (fun w1 => factors_raw c.w0 c.w1 c.w2 h.1.1.1.1 h.1.1.2.1.1 h.1.1.2.2.1 w1)
  clear h
  have HB := Lib.hid (Below.refl w.heap.size w)
  go_enter Try.func14, Try.ntmps14
  go_wp2_with (first
      | ((with_reducible refine at_slot 2 ?_); refine wl_box (A := (cfA c)) rfl rfl rfl ?_; intro W1 g1 k1 hb hle; have L1 := Lib.hid (Nat.le_trans HB.out.size hle); replace HB := Lib.hid (below_tr HB.out hb); clear hb hle)
      | ((with_reducible refine at_slot 5 ?_); refine wl_ld0 rfl rfl rfl k1 Try.underlying25 rfl cfInfo ?_)
      | ((with_reducible refine at_slot 6 ?_); refine wl_call rfl rfl Try.func12 (by kernel_rfl) rfl (cck_yes HC.out _) rfl ?_; intro V1 hb; replace k1 := k1.keep hb; replace HB := Lib.hid (below_tr HB.out hb); clear hb)
      | ((with_reducible refine at_slot 10 ?_); refine wl_call rfl rfl Try.func36 (by kernel_rfl) rfl (bl9 (cn_yes _ _ _ (by omega) (by omega) _)) rfl ?_; intro V2 hb; replace k1 := k1.keep hb; replace HB := Lib.hid (below_tr HB.out hb); clear hb)
      | ((with_reducible refine at_slot 14 ?_); refine wl_ld (arA c.w0 c.w1 c.w2) rfl rfl rfl k1 Try.underlying22 rfl arwInfo (cfA_pw c) ?_)
      | ((with_reducible refine at_slot 15 ?_); refine wl_call rfl rfl Try.func39 (by kernel_rfl) rfl (HF.out _) rfl ?_; intro V3 hb; replace k1 := k1.keep hb; replace HB := Lib.hid (below_tr HB.out hb); clear hb)
      | ((with_reducible refine at_slot 17 ?_); refine wl_index rfl rfl rfl rfl (ixw0 _ _ _ _) ?_))
  go_ret
  exact ⟨rfl, HB.out⟩
set_option maxHeartbeats 4000000 in
set_option maxRecDepth 100000 in
theorem fac_1 {c : Cf} (h : CfOk c) (w : World) : Calls Try.prog 14 #[.agg (cfA c), .int .i64 1] w fun e w' => e = .returned (.int .i64 (c.w1 / c.w0)) ∧ Below w.heap.size w w' := by
  have HC := Lib.hid h
  have HF := Lib.hid (fun w1 => factors_raw c.w0 c.w1 c.w2 h.1.1.1.1 h.1.1.2.1.1 h.1.1.2.2.1 w1)
  clear h
  have HB := Lib.hid (Below.refl w.heap.size w)
  go_enter Try.func14, Try.ntmps14
  go_wp2_with (first
      | ((with_reducible refine at_slot 2 ?_); refine wl_box (A := (cfA c)) rfl rfl rfl ?_; intro W1 g1 k1 hb hle; have L1 := Lib.hid (Nat.le_trans HB.out.size hle); replace HB := Lib.hid (below_tr HB.out hb); clear hb hle)
      | ((with_reducible refine at_slot 5 ?_); refine wl_ld0 rfl rfl rfl k1 Try.underlying25 rfl cfInfo ?_)
      | ((with_reducible refine at_slot 6 ?_); refine wl_call rfl rfl Try.func12 (by kernel_rfl) rfl (cck_yes HC.out _) rfl ?_; intro V1 hb; replace k1 := k1.keep hb; replace HB := Lib.hid (below_tr HB.out hb); clear hb)
      | ((with_reducible refine at_slot 10 ?_); refine wl_call rfl rfl Try.func36 (by kernel_rfl) rfl (bl9 (cn_yes _ _ _ (by omega) (by omega) _)) rfl ?_; intro V2 hb; replace k1 := k1.keep hb; replace HB := Lib.hid (below_tr HB.out hb); clear hb)
      | ((with_reducible refine at_slot 14 ?_); refine wl_ld (arA c.w0 c.w1 c.w2) rfl rfl rfl k1 Try.underlying22 rfl arwInfo (cfA_pw c) ?_)
      | ((with_reducible refine at_slot 15 ?_); refine wl_call rfl rfl Try.func39 (by kernel_rfl) rfl (HF.out _) rfl ?_; intro V3 hb; replace k1 := k1.keep hb; replace HB := Lib.hid (below_tr HB.out hb); clear hb)
      | ((with_reducible refine at_slot 17 ?_); refine wl_index rfl rfl rfl rfl (ixw1 _ _ _ _) ?_))
  go_ret
  exact ⟨rfl, HB.out⟩
set_option maxHeartbeats 4000000 in
set_option maxRecDepth 100000 in
theorem fac_2 {c : Cf} (h : CfOk c) (w : World) : Calls Try.prog 14 #[.agg (cfA c), .int .i64 2] w fun e w' => e = .returned (.int .i64 (c.w2 / c.w1)) ∧ Below w.heap.size w w' := by
  have HC := Lib.hid h
  have HF := Lib.hid (fun w1 => factors_raw c.w0 c.w1 c.w2 h.1.1.1.1 h.1.1.2.1.1 h.1.1.2.2.1 w1)
  clear h
  have HB := Lib.hid (Below.refl w.heap.size w)
  go_enter Try.func14, Try.ntmps14
  go_wp2_with (first
      | ((with_reducible refine at_slot 2 ?_); refine wl_box (A := (cfA c)) rfl rfl rfl ?_; intro W1 g1 k1 hb hle; have L1 := Lib.hid (Nat.le_trans HB.out.size hle); replace HB := Lib.hid (below_tr HB.out hb); clear hb hle)
      | ((with_reducible refine at_slot 5 ?_); refine wl_ld0 rfl rfl rfl k1 Try.underlying25 rfl cfInfo ?_)
      | ((with_reducible refine at_slot 6 ?_); refine wl_call rfl rfl Try.func12 (by kernel_rfl) rfl (cck_yes HC.out _) rfl ?_; intro V1 hb; replace k1 := k1.keep hb; replace HB := Lib.hid (below_tr HB.out hb); clear hb)
      | ((with_reducible refine at_slot 10 ?_); refine wl_call rfl rfl Try.func36 (by kernel_rfl) rfl (bl9 (cn_yes _ _ _ (by omega) (by omega) _)) rfl ?_; intro V2 hb; replace k1 := k1.keep hb; replace HB := Lib.hid (below_tr HB.out hb); clear hb)
      | ((with_reducible refine at_slot 14 ?_); refine wl_ld (arA c.w0 c.w1 c.w2) rfl rfl rfl k1 Try.underlying22 rfl arwInfo (cfA_pw c) ?_)
      | ((with_reducible refine at_slot 15 ?_); refine wl_call rfl rfl Try.func39 (by kernel_rfl) rfl (HF.out _) rfl ?_; intro V3 hb; replace k1 := k1.keep hb; replace HB := Lib.hid (below_tr HB.out hb); clear hb)
      | ((with_reducible refine at_slot 17 ?_); refine wl_index rfl rfl rfl rfl (ixw2 _ _ _ _) ?_))
  go_ret
  exact ⟨rfl, HB.out⟩
theorem fac_any (c : Cf) (t : Int) (w : World) : Calls Try.prog 14 #[.agg (cfA c), .int .i64 t] w fun e w' => e = .returned (.int .i64 (facI c t)) ∧ Below w.heap.size w w' := by
  unfold facI
  by_cases h : CfOk c
  · rw [if_pos h]
    by_cases h1 : t = 1
    · subst h1; exact fac_1 h w
    · rw [if_neg h1]
      by_cases h2 : t = 2
      · subst h2; exact fac_2 h w
      · rw [if_neg h2]
        by_cases h0 : t = 0
        · subst h0; exact fac_0 h w
        · exact fac_out h (by omega) w
  · rw [if_neg h]; exact fac_no h w
set_option maxHeartbeats 4000000 in
set_option maxRecDepth 100000 in
theorem ind_no {c : Cf} (h : ¬ CfOk c) (w : World) : Calls Try.prog 16 #[.agg (cfA c)] w fun e w' => e = .returned (.int .i64 0) ∧ Below w.heap.size w w' := by
  have HC := Lib.hid h
  clear h
  have HB := Lib.hid (Below.refl w.heap.size w)
  go_enter Try.func16, Try.ntmps16
  go_wp2_with (first
      | ((with_reducible refine at_slot 1 ?_); refine wl_box (A := (cfA c)) rfl rfl rfl ?_; intro W1 g1 k1 hb hle; have L1 := Lib.hid (Nat.le_trans HB.out.size hle); replace HB := Lib.hid (below_tr HB.out hb); clear hb hle)
      | ((with_reducible refine at_slot 3 ?_); refine wl_ld0 rfl rfl rfl k1 Try.underlying25 rfl cfInfo ?_)
      | ((with_reducible refine at_slot 4 ?_); refine wl_call rfl rfl Try.func12 (by kernel_rfl) rfl (cck_no HC.out _) rfl ?_; intro V1 hb; replace k1 := k1.keep hb; replace HB := Lib.hid (below_tr HB.out hb); clear hb))
  go_ret
  exact ⟨rfl, HB.out⟩
set_option maxHeartbeats 4000000 in
set_option maxRecDepth 100000 in
theorem ind_yes {c : Cf} (h : CfOk c) (w : World) : Calls Try.prog 16 #[.agg (cfA c)] w fun e w' => e = .returned (.int .i64 (secI c.log 120)) ∧ Below w.heap.size w w' := by
  obtain ⟨l0, l1⟩ := log_bd h
  obtain ⟨s0, s1⟩ := sec120_bd (n := c.log) (by omega) l1
  have HS := Lib.hid (fun w1 => sec_any c.log 120 (by omega) (by omega) (by omega) (by omega) w1)
  obtain ⟨s, hs⟩ : ∃ s, s = secI c.log 120 := ⟨_, rfl⟩
  rw [← hs] at s0 s1 HS ⊢
  clear hs
  have HC := Lib.hid h
  clear h
  have HB := Lib.hid (Below.refl w.heap.size w)
  go_enter Try.func16, Try.ntmps16
  go_wp2_with (first
      | ((with_reducible refine at_slot 1 ?_); refine wl_box (A := (cfA c)) rfl rfl rfl ?_; intro W1 g1 k1 hb hle; have L1 := Lib.hid (Nat.le_trans HB.out.size hle); replace HB := Lib.hid (below_tr HB.out hb); clear hb hle)
      | ((with_reducible refine at_slot 3 ?_); refine wl_ld0 rfl rfl rfl k1 Try.underlying25 rfl cfInfo ?_)
      | ((with_reducible refine at_slot 4 ?_); refine wl_call rfl rfl Try.func12 (by kernel_rfl) rfl (cck_yes HC.out _) rfl ?_; intro V1 hb; replace k1 := k1.keep hb; replace HB := Lib.hid (below_tr HB.out hb); clear hb)
      | ((with_reducible refine at_slot 7 ?_); refine wl_ld1 (v := .int .i64 c.log) rfl rfl rfl k1 Try.underlying3 rfl rfl ?_)
      | ((with_reducible refine at_slot 8 ?_); refine wl_call rfl rfl Try.func40 (by kernel_rfl) rfl (bl9 (HS.out _)) rfl ?_; intro V2 hb; replace k1 := k1.keep hb; replace HB := Lib.hid (below_tr HB.out hb); clear hb))
  go_ret
  exact ⟨rfl, HB.out⟩
set_option maxHeartbeats 4000000 in
set_option maxRecDepth 100000 in
theorem plc_no {c : Cf} (h : ¬ CfOk c) (w : World) : Calls Try.prog 20 #[.agg (cfA c)] w fun e w' => e = .returned (.int .i64 0) ∧ Below w.heap.size w w' := by
  have HC := Lib.hid h
  clear h
  have HB := Lib.hid (Below.refl w.heap.size w)
  go_enter Try.func20, Try.ntmps20
  go_wp2_with (first
      | ((with_reducible refine at_slot 1 ?_); refine wl_box (A := (cfA c)) rfl rfl rfl ?_; intro W1 g1 k1 hb hle; have L1 := Lib.hid (Nat.le_trans HB.out.size hle); replace HB := Lib.hid (below_tr HB.out hb); clear hb hle)
      | ((with_reducible refine at_slot 3 ?_); refine wl_ld0 rfl rfl rfl k1 Try.underlying25 rfl cfInfo ?_)
      | ((with_reducible refine at_slot 4 ?_); refine wl_call rfl rfl Try.func12 (by kernel_rfl) rfl (cck_no HC.out _) rfl ?_; intro V1 hb; replace k1 := k1.keep hb; replace HB := Lib.hid (below_tr HB.out hb); clear hb))
  go_ret
  exact ⟨rfl, HB.out⟩
set_option maxHeartbeats 4000000 in
set_option maxRecDepth 100000 in
theorem plc_yes {c : Cf} (h : CfOk c) (w : World) : Calls Try.prog 20 #[.agg (cfA c)] w fun e w' => e = .returned (.int .i64 (placeI c)) ∧ Below w.heap.size w w' := by
  have HC := Lib.hid h
  have HP := Lib.hid (fun w1 => place_at h.1 h.2.1 w1)
  clear h
  have HB := Lib.hid (Below.refl w.heap.size w)
  go_enter Try.func20, Try.ntmps20
  go_wp2_with (first
      | ((with_reducible refine at_slot 1 ?_); refine wl_box (A := (cfA c)) rfl rfl rfl ?_; intro W1 g1 k1 hb hle; have L1 := Lib.hid (Nat.le_trans HB.out.size hle); replace HB := Lib.hid (below_tr HB.out hb); clear hb hle)
      | ((with_reducible refine at_slot 3 ?_); refine wl_ld0 rfl rfl rfl k1 Try.underlying25 rfl cfInfo ?_)
      | ((with_reducible refine at_slot 4 ?_); refine wl_call rfl rfl Try.func12 (by kernel_rfl) rfl (cck_yes HC.out _) rfl ?_; intro V1 hb; replace k1 := k1.keep hb; replace HB := Lib.hid (below_tr HB.out hb); clear hb)
      | ((with_reducible refine at_slot 6 ?_); refine wl_ld0 rfl rfl rfl k1 Try.underlying25 rfl cfInfo ?_)
      | ((with_reducible refine at_slot 7 ?_); refine wl_call rfl rfl Try.func37 (by kernel_rfl) rfl (HP.out _) rfl ?_; intro V2 hb; replace k1 := k1.keep hb; replace HB := Lib.hid (below_tr HB.out hb); clear hb))
  go_ret
  exact ⟨rfl, HB.out⟩
set_option maxHeartbeats 4000000 in
set_option maxRecDepth 100000 in
theorem hom_no {c : Cf} (h : ¬ CfOk c) (w : World) : Calls Try.prog 18 #[.agg (cfA c)] w fun e w' => e = .returned (.int .i64 0) ∧ Below w.heap.size w w' := by
  have HC := Lib.hid h
  clear h
  have HB := Lib.hid (Below.refl w.heap.size w)
  go_enter Try.func18, Try.ntmps18
  go_wp2_with (first
      | ((with_reducible refine at_slot 1 ?_); refine wl_box (A := (cfA c)) rfl rfl rfl ?_; intro W1 g1 k1 hb hle; have L1 := Lib.hid (Nat.le_trans HB.out.size hle); replace HB := Lib.hid (below_tr HB.out hb); clear hb hle)
      | ((with_reducible refine at_slot 3 ?_); refine wl_ld0 rfl rfl rfl k1 Try.underlying25 rfl cfInfo ?_)
      | ((with_reducible refine at_slot 4 ?_); refine wl_call rfl rfl Try.func12 (by kernel_rfl) rfl (cck_no HC.out _) rfl ?_; intro V1 hb; replace k1 := k1.keep hb; replace HB := Lib.hid (below_tr HB.out hb); clear hb))
  go_ret
  exact ⟨rfl, HB.out⟩
set_option maxHeartbeats 4000000 in
set_option maxRecDepth 100000 in
theorem hom_yes {c : Cf} (h : CfOk c) (w : World) : Calls Try.prog 18 #[.agg (cfA c)] w fun e w' => e = .returned (.int .i64 (1 + secI c.log 120 + c.log)) ∧ Below w.heap.size w w' := by
  obtain ⟨l0, l1⟩ := log_bd h
  obtain ⟨s0, s1⟩ := sec120_bd (n := c.log) (by omega) l1
  have HS := Lib.hid (fun w1 => ind_yes h w1)
  obtain ⟨s, hs⟩ : ∃ s, s = secI c.log 120 := ⟨_, rfl⟩
  rw [← hs] at s0 s1 HS ⊢
  clear hs
  have i1 : IntKind.i64.wrap (1 + s) = 1 + s := by rw [IntKind.wrap_i64]; omega
  have i2 : IntKind.i64.wrap (1 + s + c.log) = 1 + s + c.log := by rw [IntKind.wrap_i64]; omega
  have HC := Lib.hid h
  clear h
  have HB := Lib.hid (Below.refl w.heap.size w)
  go_enter Try.func18, Try.ntmps18
  go_wp2_with (first
      | ((with_reducible refine at_slot 1 ?_); refine wl_box (A := (cfA c)) rfl rfl rfl ?_; intro W1 g1 k1 hb hle; have L1 := Lib.hid (Nat.le_trans HB.out.size hle); replace HB := Lib.hid (below_tr HB.out hb); clear hb hle)
      | ((with_reducible refine at_slot 3 ?_); refine wl_ld0 rfl rfl rfl k1 Try.underlying25 rfl cfInfo ?_)
      | ((with_reducible refine at_slot 4 ?_); refine wl_call rfl rfl Try.func12 (by kernel_rfl) rfl (cck_yes HC.out _) rfl ?_; intro V1 hb; replace k1 := k1.keep hb; replace HB := Lib.hid (below_tr HB.out hb); clear hb))
  refine wp_region_held_drew (S := fun w' => Blk w' g1 25 (cfA c) ∧ Below w.heap.size w w') (by kernel_rfl) ⟨k1.drew, HB.out.drew⟩ (fun hS => ?_)
  clear k1
  have hS2 := hS
  obtain ⟨k1, hB⟩ := hS2
  replace HB := Lib.hid hB
  clear hB
  refine wpAnyH_take (i := 0) (oi := ⟨some 6, _, _, _, _, _⟩) (v := .agg (cfA c)) rfl (by kernel_rfl) (by kernel_rfl) (by kernel_rfl) (fun _ _ _ h => h) (yi_ld0 rfl rfl rfl (fun w' h => h.1) Try.underlying25 rfl cfInfo) hS ?_
  simp only [Act.put, List.setIfInBounds_toArray, List.set_cons_zero, List.set_cons_succ]
  refine wpAnyH_take (i := 3) (oi := ⟨some 9, _, _, _, _, _⟩) (v := .pointer (some ⟨g1, 8, none⟩)) rfl (by kernel_rfl) (by kernel_rfl) (by kernel_rfl) (fun _ _ _ h => h) (yi_ok rfl (fun _ => by go_simp)) hS ?_
  simp only [Act.put, List.setIfInBounds_toArray, List.set_cons_zero, List.set_cons_succ]
  refine wpAnyH_take (i := 4) (oi := ⟨some 10, _, _, _, _, _⟩) (v := .int .i64 c.log) rfl (by kernel_rfl) (by kernel_rfl) (by kernel_rfl) (fun _ _ _ h => h) (yi_ld1 (v := .int .i64 c.log) rfl rfl rfl (fun w' h => h.1) Try.underlying3 rfl rfl) hS ?_
  simp only [Act.put, List.setIfInBounds_toArray, List.set_cons_zero, List.set_cons_succ]
  refine anyH_call (i := 1) (op := ⟨some 7, _, _, _, _, _⟩) (by kernel_rfl) rfl rfl rfl Try.func16 (by kernel_rfl) rfl (HS.out _) rfl (fun w' hb => ⟨k1.keep hb, below_tr HB.out hb⟩) (fun w' hb hS2 => ?_)
  simp only [Act.put, List.setIfInBounds_toArray, List.set_cons_zero, List.set_cons_succ]
  clear hb
  replace hS := hS2
  clear hS2
  clear k1
  have hS2 := hS
  obtain ⟨k1, hB⟩ := hS2
  replace HB := Lib.hid hB
  clear hB
  refine wpAnyH_take (i := 2) (oi := ⟨some 8, _, _, _, _, _⟩) (v := .int .i64 (1 + s)) rfl (by kernel_rfl) (by kernel_rfl) (by kernel_rfl) (fun _ _ _ h => h) (yi_ok rfl (fun _ => by go_simp)) hS ?_
  simp only [Act.put, List.setIfInBounds_toArray, List.set_cons_zero, List.set_cons_succ]
  refine wpAnyH_take (i := 5) (oi := ⟨some 11, _, _, _, _, _⟩) (v := .int .i64 (1 + s + c.log)) rfl (by kernel_rfl) (by kernel_rfl) (by kernel_rfl) (fun _ _ _ h => h) (yi_ok rfl (fun _ => by go_simp)) hS ?_
  simp only [Act.put, List.setIfInBounds_toArray, List.set_cons_zero, List.set_cons_succ]
  refine wpAnyH_take (i := 6) (oi := ⟨some 2, _, _, _, _, _⟩) (v := .int .i64 (1 + s + c.log)) rfl (by kernel_rfl) (by kernel_rfl) (by kernel_rfl) (fun _ _ _ h => h) (yi_mv (Or.inr rfl) rfl rfl) hS ?_
  simp only [Act.put, List.setIfInBounds_toArray, List.set_cons_zero, List.set_cons_succ]
  refine wpAnyH_done (by kernel_rfl) ?_ _
  clear hS
  go_wp2_with fail
  go_ret
  exact ⟨rfl, HB.out⟩
set_option maxHeartbeats 4000000 in
set_option maxRecDepth 100000 in
theorem siz_no {c : Cf} (h : ¬ CfOk c) (w : World) : Calls Try.prog 8 #[.agg (cfA c)] w fun e w' => e = .returned (.tuple #[.int .i64 0, .int .i64 2]) ∧ Below w.heap.size w w' := by
  have HC := Lib.hid h
  clear h
  have HB := Lib.hid (Below.refl w.heap.size w)
  go_enter Try.func8, Try.ntmps8
  go_wp2_with (first
      | ((with_reducible refine at_slot 1 ?_); refine wl_box (A := (cfA c)) rfl rfl rfl ?_; intro W1 g1 k1 hb hle; have L1 := Lib.hid (Nat.le_trans HB.out.size hle); replace HB := Lib.hid (below_tr HB.out hb); clear hb hle)
      | ((with_reducible refine at_slot 5 ?_); refine wl_ld0 rfl rfl rfl k1 Try.underlying25 rfl cfInfo ?_)
      | ((with_reducible refine at_slot 6 ?_); refine wl_call rfl rfl Try.func12 (by kernel_rfl) rfl (cck_no HC.out _) rfl ?_; intro V1 hb; replace k1 := k1.keep hb; replace HB := Lib.hid (below_tr HB.out hb); clear hb))
  go_ret2
  exact ⟨rfl, HB.out⟩
set_option maxHeartbeats 4000000 in
set_option maxRecDepth 100000 in
theorem siz_yes {c : Cf} (h : CfOk c) (hn : sizeN c ≤ 16777216) (w : World) : Calls Try.prog 8 #[.agg (cfA c)] w fun e w' => e = .returned (.tuple #[.int .i64 (sizeN c), .int .i64 0]) ∧ Below w.heap.size w w' := by
  obtain ⟨l0, l1⟩ := log_bd h
  obtain ⟨s0, s1⟩ := sec120_bd (n := c.log) (by omega) l1
  obtain ⟨p0, p1⟩ := place_bd h.1 h.2.1
  obtain ⟨c0, c1⟩ := h.2.2.1
  have HH := Lib.hid (fun w1 => hom_yes h w1)
  have HP := Lib.hid (fun w1 => plc_yes h w1)
  have m0 : 1 ≤ c.cap * placeI c := by have := Int.mul_le_mul c0 p0 (by omega) (by omega); omega
  have m1 : c.cap * placeI c ≤ 218169344 := by have := Int.mul_le_mul c1 p1 (by omega) (by omega); omega
  unfold sizeN at hn
  obtain ⟨p, hp⟩ : ∃ p, p = placeI c := ⟨_, rfl⟩
  obtain ⟨H, hH⟩ : ∃ H, H = 1 + secI c.log 120 + c.log := ⟨_, rfl⟩
  have y0 : 1 ≤ H := by omega
  have y1 : H ≤ 9000 := by omega
  unfold sizeN
  rw [← hH] at HH hn ⊢
  rw [← hp] at HP m0 m1 hn ⊢
  clear hp hH s0 s1 p0 p1
  have i1 : IntKind.i64.wrap (H + 1) = H + 1 := by rw [IntKind.wrap_i64]; omega
  have i2 : IntKind.i64.wrap (c.cap * p) = c.cap * p := by rw [IntKind.wrap_i64]; omega
  have i3 : IntKind.i64.wrap (H + 1 + c.cap * p) = H + 1 + c.cap * p := by rw [IntKind.wrap_i64]; omega
  have d1 : decide (16777216 < H + 1 + c.cap * p) = false := by simp; omega
  have HC := Lib.hid h
  clear h
  have HB := Lib.hid (Below.refl w.heap.size w)
  go_enter Try.func8, Try.ntmps8
  go_wp2_with (first
      | ((with_reducible refine at_slot 1 ?_); refine wl_box (A := (cfA c)) rfl rfl rfl ?_; intro W1 g1 k1 hb hle; have L1 := Lib.hid (Nat.le_trans HB.out.size hle); replace HB := Lib.hid (below_tr HB.out hb); clear hb hle)
      | ((with_reducible refine at_slot 5 ?_); refine wl_ld0 rfl rfl rfl k1 Try.underlying25 rfl cfInfo ?_)
      | ((with_reducible refine at_slot 6 ?_); refine wl_call rfl rfl Try.func12 (by kernel_rfl) rfl (cck_yes HC.out _) rfl ?_; intro V1 hb; replace k1 := k1.keep hb; replace HB := Lib.hid (below_tr HB.out hb); clear hb))
  refine wp_region_held_drew (S := fun w' => Blk w' g1 25 (cfA c) ∧ Below w.heap.size w w') (by kernel_rfl) ⟨k1.drew, HB.out.drew⟩ (fun hS => ?_)
  clear k1
  have hS2 := hS
  obtain ⟨k1, hB⟩ := hS2
  replace HB := Lib.hid hB
  clear hB
  refine wpAnyH_take (i := 0) (oi := ⟨some 8, _, _, _, _, _⟩) (v := .agg (cfA c)) rfl (by kernel_rfl) (by kernel_rfl) (by kernel_rfl) (fun _ _ _ h => h) (yi_ld0 rfl rfl rfl (fun w' h => h.1) Try.underlying25 rfl cfInfo) hS ?_
  simp only [Act.put, List.setIfInBounds_toArray, List.set_cons_zero, List.set_cons_succ]
  refine wpAnyH_take (i := 3) (oi := ⟨some 11, _, _, _, _, _⟩) (v := .pointer (some ⟨g1, 7, none⟩)) rfl (by kernel_rfl) (by kernel_rfl) (by kernel_rfl) (fun _ _ _ h => h) (yi_ok rfl (fun _ => by go_simp)) hS ?_
  simp only [Act.put, List.setIfInBounds_toArray, List.set_cons_zero, List.set_cons_succ]
  refine wpAnyH_take (i := 4) (oi := ⟨some 12, _, _, _, _, _⟩) (v := .int .i64 c.cap) rfl (by kernel_rfl) (by kernel_rfl) (by kernel_rfl) (fun _ _ _ h => h) (yi_ld1 (v := .int .i64 c.cap) rfl rfl rfl (fun w' h => h.1) Try.underlying3 rfl rfl) hS ?_
  simp only [Act.put, List.setIfInBounds_toArray, List.set_cons_zero, List.set_cons_succ]
  refine wpAnyH_take (i := 5) (oi := ⟨some 13, _, _, _, _, _⟩) (v := .agg (cfA c)) rfl (by kernel_rfl) (by kernel_rfl) (by kernel_rfl) (fun _ _ _ h => h) (yi_ld0 rfl rfl rfl (fun w' h => h.1) Try.underlying25 rfl cfInfo) hS ?_
  simp only [Act.put, List.setIfInBounds_toArray, List.set_cons_zero, List.set_cons_succ]
  refine anyH_call (i := 1) (op := ⟨some 9, _, _, _, _, _⟩) (by kernel_rfl) rfl rfl rfl Try.func18 (by kernel_rfl) rfl (HH.out _) rfl (fun w' hb => ⟨k1.keep hb, below_tr HB.out hb⟩) (fun w' hb hS2 => ?_)
  simp only [Act.put, List.setIfInBounds_toArray, List.set_cons_zero, List.set_cons_succ]
  clear hb
  replace hS := hS2
  clear hS2
  clear k1
  have hS2 := hS
  obtain ⟨k1, hB⟩ := hS2
  replace HB := Lib.hid hB
  clear hB
  refine wpAnyH_take (i := 2) (oi := ⟨some 10, _, _, _, _, _⟩) (v := .int .i64 (H + 1)) rfl (by kernel_rfl) (by kernel_rfl) (by kernel_rfl) (fun _ _ _ h => h) (yi_ok rfl (fun _ => by go_simp)) hS ?_
  simp only [Act.put, List.setIfInBounds_toArray, List.set_cons_zero, List.set_cons_succ]
  refine anyH_call (i := 6) (op := ⟨some 14, _, _, _, _, _⟩) (by kernel_rfl) rfl rfl rfl Try.func20 (by kernel_rfl) rfl (HP.out _) rfl (fun w' hb => ⟨k1.keep hb, below_tr HB.out hb⟩) (fun w' hb hS2 => ?_)
  simp only [Act.put, List.setIfInBounds_toArray, List.set_cons_zero, List.set_cons_succ]
  clear hb
  replace hS := hS2
  clear hS2
  clear k1
  have hS2 := hS
  obtain ⟨k1, hB⟩ := hS2
  replace HB := Lib.hid hB
  clear hB
  refine wpAnyH_take (i := 7) (oi := ⟨some 15, _, _, _, _, _⟩) (v := .int .i64 (c.cap * p)) rfl (by kernel_rfl) (by kernel_rfl) (by kernel_rfl) (fun _ _ _ h => h) (yi_ok rfl (fun _ => by go_simp)) hS ?_
  simp only [Act.put, List.setIfInBounds_toArray, List.set_cons_zero, List.set_cons_succ]
  refine wpAnyH_take (i := 8) (oi := ⟨some 16, _, _, _, _, _⟩) (v := .int .i64 (H + 1 + c.cap * p)) rfl (by kernel_rfl) (by kernel_rfl) (by kernel_rfl) (fun _ _ _ h => h) (yi_ok rfl (fun _ => by go_simp)) hS ?_
  simp only [Act.put, List.setIfInBounds_toArray, List.set_cons_zero, List.set_cons_succ]
  refine wpAnyH_take (i := 9) (oi := ⟨some 4, _, _, _, _, _⟩) (v := .int .i64 (H + 1 + c.cap * p)) rfl (by kernel_rfl) (by kernel_rfl) (by kernel_rfl) (fun _ _ _ h => h) (yi_mv (Or.inr rfl) rfl rfl) hS ?_
  simp only [Act.put, List.setIfInBounds_toArray, List.set_cons_zero, List.set_cons_succ]
  refine wpAnyH_done (by kernel_rfl) ?_ _
  clear hS
  go_wp2_with fail
  go_ret2
  exact ⟨rfl, HB.out⟩
set_option maxHeartbeats 4000000 in
set_option maxRecDepth 100000 in
theorem siz_big {c : Cf} (h : CfOk c) (hn : 16777216 < sizeN c) (w : World) : Calls Try.prog 8 #[.agg (cfA c)] w fun e w' => e = .returned (.tuple #[.int .i64 0, .int .i64 1]) ∧ Below w.heap.size w w' := by
  obtain ⟨l0, l1⟩ := log_bd h
  obtain ⟨s0, s1⟩ := sec120_bd (n := c.log) (by omega) l1
  obtain ⟨p0, p1⟩ := place_bd h.1 h.2.1
  obtain ⟨c0, c1⟩ := h.2.2.1
  have HH := Lib.hid (fun w1 => hom_yes h w1)
  have HP := Lib.hid (fun w1 => plc_yes h w1)
  have m0 : 1 ≤ c.cap * placeI c := by have := Int.mul_le_mul c0 p0 (by omega) (by omega); omega
  have m1 : c.cap * placeI c ≤ 218169344 := by have := Int.mul_le_mul c1 p1 (by omega) (by omega); omega
  unfold sizeN at hn
  obtain ⟨p, hp⟩ : ∃ p, p = placeI c := ⟨_, rfl⟩
  obtain ⟨H, hH⟩ : ∃ H, H = 1 + secI c.log 120 + c.log := ⟨_, rfl⟩
  have y0 : 1 ≤ H := by omega
  have y1 : H ≤ 9000 := by omega
  rw [← hH] at HH hn
  rw [← hp] at HP m0 m1 hn
  clear hp hH s0 s1 p0 p1
  have i1 : IntKind.i64.wrap (H + 1) = H + 1 := by rw [IntKind.wrap_i64]; omega
  have i2 : IntKind.i64.wrap (c.cap * p) = c.cap * p := by rw [IntKind.wrap_i64]; omega
  have i3 : IntKind.i64.wrap (H + 1 + c.cap * p) = H + 1 + c.cap * p := by rw [IntKind.wrap_i64]; omega
  have d1 : decide (16777216 < H + 1 + c.cap * p) = true := by simp; omega
  have HC := Lib.hid h
  clear h
  have HB := Lib.hid (Below.refl w.heap.size w)
  go_enter Try.func8, Try.ntmps8
  go_wp2_with (first
      | ((with_reducible refine at_slot 1 ?_); refine wl_box (A := (cfA c)) rfl rfl rfl ?_; intro W1 g1 k1 hb hle; have L1 := Lib.hid (Nat.le_trans HB.out.size hle); replace HB := Lib.hid (below_tr HB.out hb); clear hb hle)
      | ((with_reducible refine at_slot 5 ?_); refine wl_ld0 rfl rfl rfl k1 Try.underlying25 rfl cfInfo ?_)
      | ((with_reducible refine at_slot 6 ?_); refine wl_call rfl rfl Try.func12 (by kernel_rfl) rfl (cck_yes HC.out _) rfl ?_; intro V1 hb; replace k1 := k1.keep hb; replace HB := Lib.hid (below_tr HB.out hb); clear hb))
  refine wp_region_held_drew (S := fun w' => Blk w' g1 25 (cfA c) ∧ Below w.heap.size w w') (by kernel_rfl) ⟨k1.drew, HB.out.drew⟩ (fun hS => ?_)
  clear k1
  have hS2 := hS
  obtain ⟨k1, hB⟩ := hS2
  replace HB := Lib.hid hB
  clear hB
  refine wpAnyH_take (i := 0) (oi := ⟨some 8, _, _, _, _, _⟩) (v := .agg (cfA c)) rfl (by kernel_rfl) (by kernel_rfl) (by kernel_rfl) (fun _ _ _ h => h) (yi_ld0 rfl rfl rfl (fun w' h => h.1) Try.underlying25 rfl cfInfo) hS ?_
  simp only [Act.put, List.setIfInBounds_toArray, List.set_cons_zero, List.set_cons_succ]
  refine wpAnyH_take (i := 3) (oi := ⟨some 11, _, _, _, _, _⟩) (v := .pointer (some ⟨g1, 7, none⟩)) rfl (by kernel_rfl) (by kernel_rfl) (by kernel_rfl) (fun _ _ _ h => h) (yi_ok rfl (fun _ => by go_simp)) hS ?_
  simp only [Act.put, List.setIfInBounds_toArray, List.set_cons_zero, List.set_cons_succ]
  refine wpAnyH_take (i := 4) (oi := ⟨some 12, _, _, _, _, _⟩) (v := .int .i64 c.cap) rfl (by kernel_rfl) (by kernel_rfl) (by kernel_rfl) (fun _ _ _ h => h) (yi_ld1 (v := .int .i64 c.cap) rfl rfl rfl (fun w' h => h.1) Try.underlying3 rfl rfl) hS ?_
  simp only [Act.put, List.setIfInBounds_toArray, List.set_cons_zero, List.set_cons_succ]
  refine wpAnyH_take (i := 5) (oi := ⟨some 13, _, _, _, _, _⟩) (v := .agg (cfA c)) rfl (by kernel_rfl) (by kernel_rfl) (by kernel_rfl) (fun _ _ _ h => h) (yi_ld0 rfl rfl rfl (fun w' h => h.1) Try.underlying25 rfl cfInfo) hS ?_
  simp only [Act.put, List.setIfInBounds_toArray, List.set_cons_zero, List.set_cons_succ]
  refine anyH_call (i := 1) (op := ⟨some 9, _, _, _, _, _⟩) (by kernel_rfl) rfl rfl rfl Try.func18 (by kernel_rfl) rfl (HH.out _) rfl (fun w' hb => ⟨k1.keep hb, below_tr HB.out hb⟩) (fun w' hb hS2 => ?_)
  simp only [Act.put, List.setIfInBounds_toArray, List.set_cons_zero, List.set_cons_succ]
  clear hb
  replace hS := hS2
  clear hS2
  clear k1
  have hS2 := hS
  obtain ⟨k1, hB⟩ := hS2
  replace HB := Lib.hid hB
  clear hB
  refine wpAnyH_take (i := 2) (oi := ⟨some 10, _, _, _, _, _⟩) (v := .int .i64 (H + 1)) rfl (by kernel_rfl) (by kernel_rfl) (by kernel_rfl) (fun _ _ _ h => h) (yi_ok rfl (fun _ => by go_simp)) hS ?_
  simp only [Act.put, List.setIfInBounds_toArray, List.set_cons_zero, List.set_cons_succ]
  refine anyH_call (i := 6) (op := ⟨some 14, _, _, _, _, _⟩) (by kernel_rfl) rfl rfl rfl Try.func20 (by kernel_rfl) rfl (HP.out _) rfl (fun w' hb => ⟨k1.keep hb, below_tr HB.out hb⟩) (fun w' hb hS2 => ?_)
  simp only [Act.put, List.setIfInBounds_toArray, List.set_cons_zero, List.set_cons_succ]
  clear hb
  replace hS := hS2
  clear hS2
  clear k1
  have hS2 := hS
  obtain ⟨k1, hB⟩ := hS2
  replace HB := Lib.hid hB
  clear hB
  refine wpAnyH_take (i := 7) (oi := ⟨some 15, _, _, _, _, _⟩) (v := .int .i64 (c.cap * p)) rfl (by kernel_rfl) (by kernel_rfl) (by kernel_rfl) (fun _ _ _ h => h) (yi_ok rfl (fun _ => by go_simp)) hS ?_
  simp only [Act.put, List.setIfInBounds_toArray, List.set_cons_zero, List.set_cons_succ]
  refine wpAnyH_take (i := 8) (oi := ⟨some 16, _, _, _, _, _⟩) (v := .int .i64 (H + 1 + c.cap * p)) rfl (by kernel_rfl) (by kernel_rfl) (by kernel_rfl) (fun _ _ _ h => h) (yi_ok rfl (fun _ => by go_simp)) hS ?_
  simp only [Act.put, List.setIfInBounds_toArray, List.set_cons_zero, List.set_cons_succ]
  refine wpAnyH_take (i := 9) (oi := ⟨some 4, _, _, _, _, _⟩) (v := .int .i64 (H + 1 + c.cap * p)) rfl (by kernel_rfl) (by kernel_rfl) (by kernel_rfl) (fun _ _ _ h => h) (yi_mv (Or.inr rfl) rfl rfl) hS ?_
  simp only [Act.put, List.setIfInBounds_toArray, List.set_cons_zero, List.set_cons_succ]
  refine wpAnyH_done (by kernel_rfl) ?_ _
  clear hS
  go_wp2_with fail
  go_ret2
  exact ⟨rfl, HB.out⟩
set_option maxHeartbeats 4000000 in
set_option maxRecDepth 100000 in
theorem ret_no {c : Cf} (h : ¬ CfOk c) (w : World) : Calls Try.prog 24 #[.agg (cfA c)] w fun e w' => e = .returned (.int .i64 0) ∧ Below w.heap.size w w' := by
  have HC := Lib.hid h
  clear h
  have HB := Lib.hid (Below.refl w.heap.size w)
  go_enter Try.func24, Try.ntmps24
  go_wp2_with (first
      | ((with_reducible refine at_slot 1 ?_); refine wl_box (A := (cfA c)) rfl rfl rfl ?_; intro W1 g1 k1 hb hle; have L1 := Lib.hid (Nat.le_trans HB.out.size hle); replace HB := Lib.hid (below_tr HB.out hb); clear hb hle)
      | ((with_reducible refine at_slot 6 ?_); refine wl_ld0 rfl rfl rfl k1 Try.underlying25 rfl cfInfo ?_)
      | ((with_reducible refine at_slot 7 ?_); refine wl_call rfl rfl Try.func12 (by kernel_rfl) rfl (cck_no HC.out _) rfl ?_; intro V1 hb; replace k1 := k1.keep hb; replace HB := Lib.hid (below_tr HB.out hb); clear hb))
  go_ret
  exact ⟨rfl, HB.out⟩
set_option maxHeartbeats 4000000 in
set_option maxRecDepth 100000 in
theorem ret_yes {c : Cf} (h : CfOk c) (w : World) : Calls Try.prog 24 #[.agg (cfA c)] w fun e w' => e = .returned (.int .i64 (max (max (c.w0 * c.n0) (c.w1 * c.n1)) (c.w2 * c.n2))) ∧ Below w.heap.size w w' := by
  obtain ⟨a0, b0⟩ := prod_bd h.1.1.1.1 h.1.1.1.2
  obtain ⟨a1, b1⟩ := prod_bd h.1.1.2.1.1 h.1.1.2.1.2
  obtain ⟨a2, b2⟩ := prod_bd h.1.1.2.2.1 h.1.1.2.2.2
  have i0 : IntKind.i64.wrap (c.w0 * c.n0) = c.w0 * c.n0 := by rw [IntKind.wrap_i64]; omega
  obtain ⟨p0, e0⟩ : ∃ p, p = c.w0 * c.n0 := ⟨_, rfl⟩
  rw [← e0] at a0 b0 i0 ⊢
  rw [e0] at i0
  have I0 : IntKind.i64.wrap (c.w0 * c.n0) = p0 := by rw [i0, e0]
  clear i0 e0
  have i1 : IntKind.i64.wrap (c.w1 * c.n1) = c.w1 * c.n1 := by rw [IntKind.wrap_i64]; omega
  obtain ⟨p1, e1⟩ : ∃ p, p = c.w1 * c.n1 := ⟨_, rfl⟩
  rw [← e1] at a1 b1 i1 ⊢
  rw [e1] at i1
  have I1 : IntKind.i64.wrap (c.w1 * c.n1) = p1 := by rw [i1, e1]
  clear i1 e1
  have i2 : IntKind.i64.wrap (c.w2 * c.n2) = c.w2 * c.n2 := by rw [IntKind.wrap_i64]; omega
  obtain ⟨p2, e2⟩ : ∃ p, p = c.w2 * c.n2 := ⟨_, rfl⟩
  rw [← e2] at a2 b2 i2 ⊢
  rw [e2] at i2
  have I2 : IntKind.i64.wrap (c.w2 * c.n2) = p2 := by rw [i2, e2]
  clear i2 e2
  have HC := Lib.hid h
  clear h
  have HB := Lib.hid (Below.refl w.heap.size w)
  go_enter Try.func24, Try.ntmps24
  go_wp2_with (first
      | ((with_reducible refine at_slot 1 ?_); refine wl_box (A := (cfA c)) rfl rfl rfl ?_; intro W1 g1 k1 hb hle; have L1 := Lib.hid (Nat.le_trans HB.out.size hle); replace HB := Lib.hid (below_tr HB.out hb); clear hb hle)
      | ((with_reducible refine at_slot 6 ?_); refine wl_ld0 rfl rfl rfl k1 Try.underlying25 rfl cfInfo ?_)
      | ((with_reducible refine at_slot 7 ?_); refine wl_call rfl rfl Try.func12 (by kernel_rfl) rfl (cck_yes HC.out _) rfl ?_; intro V1 hb; replace k1 := k1.keep hb; replace HB := Lib.hid (below_tr HB.out hb); clear hb)
      | ((with_reducible refine at_slot 10 ?_); refine wl_ld (arA c.w0 c.w1 c.w2) rfl rfl rfl k1 Try.underlying22 rfl arwInfo (cfA_pw c) ?_))
  refine wp_loop_rounds 4 ?_
  rw [rounds_succ]
  go_wp2_with (first
      | ((with_reducible refine at_slot 14 ?_); refine wl_index rfl rfl rfl rfl (ixw0 _ _ _ _) ?_)
      | ((with_reducible refine at_slot 20 ?_); refine wl_ld1 (v := .int .i64 c.n0) rfl rfl rfl k1 Try.underlying3 rfl rfl ?_))
  all_goals rw [rounds_succ]
  all_goals go_wp2_with (first
      | ((with_reducible refine at_slot 14 ?_); refine wl_index rfl rfl rfl rfl (ixw1 _ _ _ _) ?_)
      | ((with_reducible refine at_slot 20 ?_); refine wl_ld1 (v := .int .i64 c.n1) rfl rfl rfl k1 Try.underlying3 rfl rfl ?_))
  all_goals rw [rounds_succ]
  all_goals go_wp2_with (first
      | ((with_reducible refine at_slot 14 ?_); refine wl_index rfl rfl rfl rfl (ixw2 _ _ _ _) ?_)
      | ((with_reducible refine at_slot 20 ?_); refine wl_ld1 (v := .int .i64 c.n2) rfl rfl rfl k1 Try.underlying3 rfl rfl ?_))
  all_goals rw [rounds_succ]
  all_goals go_wp2_with fail
  all_goals (go_ret; exact ⟨rt_e (by omega), HB.out⟩)
theorem ind_any (c : Cf) (w : World) : Calls Try.prog 16 #[.agg (cfA c)] w fun e w' => e = .returned (.int .i64 (indI c)) ∧ Below w.heap.size w w' := by
  unfold indI
  by_cases h : CfOk c
  · rw [if_pos h]; exact ind_yes h w
  · rw [if_neg h]; exact ind_no h w
theorem plc_any (c : Cf) (w : World) : Calls Try.prog 20 #[.agg (cfA c)] w fun e w' => e = .returned (.int .i64 (plcI c)) ∧ Below w.heap.size w w' := by
  unfold plcI
  by_cases h : CfOk c
  · rw [if_pos h]; exact plc_yes h w
  · rw [if_neg h]; exact plc_no h w
theorem hom_any (c : Cf) (w : World) : Calls Try.prog 18 #[.agg (cfA c)] w fun e w' => e = .returned (.int .i64 (homI c)) ∧ Below w.heap.size w w' := by
  unfold homI
  by_cases h : CfOk c
  · rw [if_pos h]; exact hom_yes h w
  · rw [if_neg h]; exact hom_no h w
theorem ret_any (c : Cf) (w : World) : Calls Try.prog 24 #[.agg (cfA c)] w fun e w' => e = .returned (.int .i64 (retI c)) ∧ Below w.heap.size w w' := by
  unfold retI
  by_cases h : CfOk c
  · rw [if_pos h]; exact ret_yes h w
  · rw [if_neg h]; exact ret_no h w
def zeroCf : Cf := ⟨0, 0, 0, 0, 0, 0, 0, 0, 0⟩
theorem cf_zero : (Try.prog.info? 25).map (·.zero) = some (some (.agg (cfA zeroCf))) := by kernel_rfl
def fitC : Cf := ⟨20, 10, 20, 60, 4, 5, 6, 3, 9⟩
theorem fit_ok : CfOk fitC := by decide +kernel
set_option maxHeartbeats 1000000 in
theorem fit_any (w : World) : Calls Try.prog 30 #[] w fun e w' => e = .returned (.agg (cfA fitC)) ∧ Below w.heap.size w w' := by
  go_enter Try.func30, Try.ntmps30
  go_wp2
  refine bodyPost_ret (v := .agg #[.int .i64 20, .int .i64 10, .int .i64 20, .int .i64 60, .int .i64 4, .int .i64 5, .int .i64 6, .int .i64 3, .int .i64 9]) (by simp [results, Try.results30, go_sem]) rfl ⟨rfl, by go_grown⟩
theorem siz_any (c : Cf) (w : World) : Calls Try.prog 8 #[.agg (cfA c)] w fun e w' => e = .returned (.tuple #[.int .i64 (szI c), .int .i64 (szE c)]) ∧ Below w.heap.size w w' := by
  by_cases h : CfOk c
  · by_cases hn : sizeN c ≤ 16777216
    · rw [show szI c = sizeN c from if_pos ⟨h, hn⟩, show szE c = 0 by unfold szE; rw [if_pos h, if_pos hn]]; exact siz_yes h hn w
    · rw [show szI c = 0 from if_neg (fun h => hn h.2), show szE c = 1 by unfold szE; rw [if_pos h, if_neg hn]]; exact siz_big h (by omega) w
  · rw [show szI c = 0 from if_neg (fun h' => h h'.1), show szE c = 2 from if_neg h]; exact siz_no h w
end Go.Proofs.Yticmkepocacmhaa
