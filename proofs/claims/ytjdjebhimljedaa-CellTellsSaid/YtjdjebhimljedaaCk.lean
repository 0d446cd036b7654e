/-
  WALKS: cell.areRightEnds, areRightNumbers, Check, in all ways.
-/
import Derived.Test.YtjdjebhimljedaaNu
namespace Go.Proofs.Ytjdjebhimljedaa
open Go Go.RowKit

theorem maxTimes_n {k : Nat} (hk : k < 18446744073709551616) : (timesU maxU k).n = 18446744073709551615 * k := cutU_n (most_n hk)
theorem nums_yes {x : Ce} (hi : CeIn x) (he : EndsOk x) (hn : NumsOk x) (w : World) :
    Calls Try.prog 26 #[.agg (ceA x)] w fun e w' => e = .returned (.bool true) ∧ Below w.heap.size w w' := by
  have := nums_most x hi he hn.r hn.g hn.s hn.s1 hn.rg w
  have e : lessB (timesU maxU (x.n - 1).toNat) x.i = false := by
    have hk : (x.n - 1).toNat < 18446744073709551616 := by have := hi.n1; omega
    unfold lessB
    rw [maxTimes_n hk]
    have := hn.i
    simp; omega
  rw [e] at this
  exact this
theorem nums_bad {x : Ce} (hi : CeIn x) (he : EndsOk x) (hn : ¬ NumsOk x) (w : World) :
    Calls Try.prog 26 #[.agg (ceA x)] w fun e w' => e = .returned (.bool false) ∧ Below w.heap.size w w' := by
  by_cases h : 0 ≤ x.r ∧ 0 ≤ x.g ∧ 0 ≤ x.s ∧ x.s ≤ x.l.t - x.f.t ∧ x.r + x.g < x.n
  · obtain ⟨h1, h2, h3, h4, h5⟩ := h
    have := nums_most x hi he h1 h2 h3 h4 h5 w
    have e : lessB (timesU maxU (x.n - 1).toNat) x.i = true := by
      have hk : (x.n - 1).toNat < 18446744073709551616 := by have := hi.n1; omega
      unfold lessB
      rw [maxTimes_n hk]
      have : ¬ x.i.n ≤ 18446744073709551615 * (x.n - 1).toNat := fun h6 => hn ⟨h1, h2, h3, h4, h5, h6⟩
      simp; omega
    rw [e] at this
    exact this
  · exact nums_no x hi he h w

set_option maxHeartbeats 4000000 in
set_option maxRecDepth 100000 in
theorem ends1 {x : Ce} (h : x.n = 1) (hf : EvOk x.f) (hl : x.f = x.l) (w : World) :
    Calls Try.prog 25 #[.agg (ceA x)] w fun e w' => e = .returned (.bool true) ∧ Below w.heap.size w w' := by
  have d1 : (x.n == 1) = true := by simp; omega
  have H := Lib.hid h
  have HF := Lib.hid hf
  have HL := Lib.hid hl
  clear h hf hl
  have HB := Lib.hid (Below.refl w.heap.size w)
  go_enter Try.func25, Try.ntmps25
  go_wp2_with (first
      | ((with_reducible refine at_slot 1 ?_); refine wl_box (A := (ceA x)) rfl rfl rfl ?_; intro W1 g1 k1 hb hle; have L1 := Lib.hid (Nat.le_trans HB.out.size hle); replace HB := Lib.hid (below_tr HB.out hb); clear hb hle)
      | ((with_reducible refine at_slot 4 ?_); refine wl_ld1 (v := .int .i64 x.n) rfl rfl rfl k1 Try.underlying2 rfl rfl ?_)
      | ((with_reducible refine at_slot 7 ?_); refine wl_ld (evA x.f) rfl rfl rfl k1 Try.underlying24 rfl evInfo (ceA_pf x) ?_)
      | ((with_reducible refine at_slot 8 ?_); refine wl_call rfl rfl Try.func17 (by kernel_rfl) rfl (ev_yes HF.out _) rfl ?_; intro V1 hb; replace k1 := k1.keep hb; replace HB := Lib.hid (below_tr HB.out hb); clear hb)
      | ((with_reducible refine at_slot 12 ?_); refine wl_ld (evA x.f) rfl rfl rfl k1 Try.underlying24 rfl evInfo (ceA_pf x) ?_)
      | ((with_reducible refine at_slot 14 ?_); refine wl_ld (evA x.l) rfl rfl rfl k1 Try.underlying24 rfl evInfo (ceA_pl x) ?_)
      | ((with_reducible refine at_slot 15 ?_); refine wl_bin (v := .bool true) rfl rfl (run_eqGuard_agg _ _ _ _ _ _ _ (by kernel_rfl)) (ev_eql_yes HL.out _) ?_))
  go_ret
  exact ⟨rfl, HB.out⟩
set_option maxHeartbeats 4000000 in
set_option maxRecDepth 100000 in
theorem ends2 {x : Ce} (h : x.n = 1) (hf : EvOk x.f) (hl : ¬ x.f = x.l) (w : World) :
    Calls Try.prog 25 #[.agg (ceA x)] w fun e w' => e = .returned (.bool false) ∧ Below w.heap.size w w' := by
  have d1 : (x.n == 1) = true := by simp; omega
  have H := Lib.hid h
  have HF := Lib.hid hf
  have HL := Lib.hid hl
  clear h hf hl
  have HB := Lib.hid (Below.refl w.heap.size w)
  go_enter Try.func25, Try.ntmps25
  go_wp2_with (first
      | ((with_reducible refine at_slot 1 ?_); refine wl_box (A := (ceA x)) rfl rfl rfl ?_; intro W1 g1 k1 hb hle; have L1 := Lib.hid (Nat.le_trans HB.out.size hle); replace HB := Lib.hid (below_tr HB.out hb); clear hb hle)
      | ((with_reducible refine at_slot 4 ?_); refine wl_ld1 (v := .int .i64 x.n) rfl rfl rfl k1 Try.underlying2 rfl rfl ?_)
      | ((with_reducible refine at_slot 7 ?_); refine wl_ld (evA x.f) rfl rfl rfl k1 Try.underlying24 rfl evInfo (ceA_pf x) ?_)
      | ((with_reducible refine at_slot 8 ?_); refine wl_call rfl rfl Try.func17 (by kernel_rfl) rfl (ev_yes HF.out _) rfl ?_; intro V1 hb; replace k1 := k1.keep hb; replace HB := Lib.hid (below_tr HB.out hb); clear hb)
      | ((with_reducible refine at_slot 12 ?_); refine wl_ld (evA x.f) rfl rfl rfl k1 Try.underlying24 rfl evInfo (ceA_pf x) ?_)
      | ((with_reducible refine at_slot 14 ?_); refine wl_ld (evA x.l) rfl rfl rfl k1 Try.underlying24 rfl evInfo (ceA_pl x) ?_)
      | ((with_reducible refine at_slot 15 ?_); refine wl_bin (v := .bool false) rfl rfl (run_eqGuard_agg _ _ _ _ _ _ _ (by kernel_rfl)) (ev_eql_no HL.out _) ?_))
  go_ret
  exact ⟨rfl, HB.out⟩
set_option maxHeartbeats 4000000 in
set_option maxRecDepth 100000 in
theorem ends3 {x : Ce} (h : x.n = 1) (ifx : EvIn x.f) (hf : ¬ EvOk x.f) (w : World) :
    Calls Try.prog 25 #[.agg (ceA x)] w fun e w' => e = .returned (.bool false) ∧ Below w.heap.size w w' := by
  have d1 : (x.n == 1) = true := by simp; omega
  have H := Lib.hid h
  have IFX := Lib.hid ifx
  have HF := Lib.hid hf
  clear h ifx hf
  have HB := Lib.hid (Below.refl w.heap.size w)
  go_enter Try.func25, Try.ntmps25
  go_wp2_with (first
      | ((with_reducible refine at_slot 1 ?_); refine wl_box (A := (ceA x)) rfl rfl rfl ?_; intro W1 g1 k1 hb hle; have L1 := Lib.hid (Nat.le_trans HB.out.size hle); replace HB := Lib.hid (below_tr HB.out hb); clear hb hle)
      | ((with_reducible refine at_slot 4 ?_); refine wl_ld1 (v := .int .i64 x.n) rfl rfl rfl k1 Try.underlying2 rfl rfl ?_)
      | ((with_reducible refine at_slot 7 ?_); refine wl_ld (evA x.f) rfl rfl rfl k1 Try.underlying24 rfl evInfo (ceA_pf x) ?_)
      | ((with_reducible refine at_slot 8 ?_); refine wl_call rfl rfl Try.func17 (by kernel_rfl) rfl (ev_no IFX.out HF.out _) rfl ?_; intro V1 hb; replace k1 := k1.keep hb; replace HB := Lib.hid (below_tr HB.out hb); clear hb)
      | ((with_reducible refine at_slot 12 ?_); refine wl_ld (evA x.f) rfl rfl rfl k1 Try.underlying24 rfl evInfo (ceA_pf x) ?_)
      | ((with_reducible refine at_slot 14 ?_); refine wl_ld (evA x.l) rfl rfl rfl k1 Try.underlying24 rfl evInfo (ceA_pl x) ?_))
  go_ret
  exact ⟨rfl, HB.out⟩
set_option maxHeartbeats 4000000 in
set_option maxRecDepth 100000 in
theorem ends4 {x : Ce} (h : x.n < 1) (w : World) :
    Calls Try.prog 25 #[.agg (ceA x)] w fun e w' => e = .returned (.bool false) ∧ Below w.heap.size w w' := by
  have d1 : (x.n == 1) = false := by simp; omega
  have d2 : decide (1 < x.n) = false := by simp; omega
  have H := Lib.hid h
  clear h
  have HB := Lib.hid (Below.refl w.heap.size w)
  go_enter Try.func25, Try.ntmps25
  go_wp2_with (first
      | ((with_reducible refine at_slot 1 ?_); refine wl_box (A := (ceA x)) rfl rfl rfl ?_; intro W1 g1 k1 hb hle; have L1 := Lib.hid (Nat.le_trans HB.out.size hle); replace HB := Lib.hid (below_tr HB.out hb); clear hb hle)
      | ((with_reducible refine at_slot 4 ?_); refine wl_ld1 (v := .int .i64 x.n) rfl rfl rfl k1 Try.underlying2 rfl rfl ?_)
      | ((with_reducible refine at_slot 18 ?_); refine wl_ld1 (v := .int .i64 x.n) rfl rfl rfl k1 Try.underlying2 rfl rfl ?_)
      | ((with_reducible refine at_slot 22 ?_); refine wl_ld (evA x.f) rfl rfl rfl k1 Try.underlying24 rfl evInfo (ceA_pf x) ?_)
      | ((with_reducible refine at_slot 24 ?_); refine wl_ld (evA x.l) rfl rfl rfl k1 Try.underlying24 rfl evInfo (ceA_pl x) ?_)
      | ((with_reducible refine at_slot 29 ?_); refine wl_ld1 (v := .int .i64 x.n) rfl rfl rfl k1 Try.underlying2 rfl rfl ?_)
      | ((with_reducible refine at_slot 32 ?_); refine wl_ld1 (v := .int .i64 x.l.t) rfl rfl rfl k1 Try.underlying2 rfl rfl ?_)
      | ((with_reducible refine at_slot 35 ?_); refine wl_ld1 (v := .int .i64 x.f.t) rfl rfl rfl k1 Try.underlying2 rfl rfl ?_))
  go_ret
  exact ⟨rfl, HB.out⟩
set_option maxHeartbeats 4000000 in
set_option maxRecDepth 100000 in
theorem ends5 {x : Ce} (hi : CeIn x) (h : 1 < x.n) (hf : Fol x.f x.l) (hl : x.n ≤ x.l.t - x.f.t + 1) (w : World) :
    Calls Try.prog 25 #[.agg (ceA x)] w fun e w' => e = .returned (.bool true) ∧ Below w.heap.size w w' := by
  have d1 : (x.n == 1) = false := by simp; omega
  have d2 : decide (1 < x.n) = true := by simp; omega
  have u1 := hf.1.t0; have u2 := hf.1.t1; have u3 := hf.2.1.t0; have u4 := hf.2.1.t1; have q0 := hi.n0; have q1 := hi.n1
  have d3 : decide (x.n ≤ x.l.t - x.f.t + 1) = true := by simp; omega
  have H := Lib.hid h
  have HF := Lib.hid hf
  have HL := Lib.hid hl
  have HI := Lib.hid hi
  clear h hf hl hi
  have HB := Lib.hid (Below.refl w.heap.size w)
  go_enter Try.func25, Try.ntmps25
  go_wp2_with (first
      | ((with_reducible refine at_slot 1 ?_); refine wl_box (A := (ceA x)) rfl rfl rfl ?_; intro W1 g1 k1 hb hle; have L1 := Lib.hid (Nat.le_trans HB.out.size hle); replace HB := Lib.hid (below_tr HB.out hb); clear hb hle)
      | ((with_reducible refine at_slot 4 ?_); refine wl_ld1 (v := .int .i64 x.n) rfl rfl rfl k1 Try.underlying2 rfl rfl ?_)
      | ((with_reducible refine at_slot 18 ?_); refine wl_ld1 (v := .int .i64 x.n) rfl rfl rfl k1 Try.underlying2 rfl rfl ?_)
      | ((with_reducible refine at_slot 22 ?_); refine wl_ld (evA x.f) rfl rfl rfl k1 Try.underlying24 rfl evInfo (ceA_pf x) ?_)
      | ((with_reducible refine at_slot 24 ?_); refine wl_ld (evA x.l) rfl rfl rfl k1 Try.underlying24 rfl evInfo (ceA_pl x) ?_)
      | ((with_reducible refine at_slot 25 ?_); refine wl_call rfl rfl Try.func34 (by kernel_rfl) rfl (fol_yes HF.out _) rfl ?_; intro V1 hb; replace k1 := k1.keep hb; replace HB := Lib.hid (below_tr HB.out hb); clear hb)
      | ((with_reducible refine at_slot 29 ?_); refine wl_ld1 (v := .int .i64 x.n) rfl rfl rfl k1 Try.underlying2 rfl rfl ?_)
      | ((with_reducible refine at_slot 32 ?_); refine wl_ld1 (v := .int .i64 x.l.t) rfl rfl rfl k1 Try.underlying2 rfl rfl ?_)
      | ((with_reducible refine at_slot 35 ?_); refine wl_ld1 (v := .int .i64 x.f.t) rfl rfl rfl k1 Try.underlying2 rfl rfl ?_))
  go_ret
  exact ⟨rfl, HB.out⟩
set_option maxHeartbeats 4000000 in
set_option maxRecDepth 100000 in
theorem ends6 {x : Ce} (hi : CeIn x) (h : 1 < x.n) (hf : Fol x.f x.l) (hl : ¬ x.n ≤ x.l.t - x.f.t + 1) (w : World) :
    Calls Try.prog 25 #[.agg (ceA x)] w fun e w' => e = .returned (.bool false) ∧ Below w.heap.size w w' := by
  have d1 : (x.n == 1) = false := by simp; omega
  have d2 : decide (1 < x.n) = true := by simp; omega
  have u1 := hf.1.t0; have u2 := hf.1.t1; have u3 := hf.2.1.t0; have u4 := hf.2.1.t1; have q0 := hi.n0; have q1 := hi.n1
  have d3 : decide (x.n ≤ x.l.t - x.f.t + 1) = false := by simp; omega
  have H := Lib.hid h
  have HF := Lib.hid hf
  have HL := Lib.hid hl
  have HI := Lib.hid hi
  clear h hf hl hi
  have HB := Lib.hid (Below.refl w.heap.size w)
  go_enter Try.func25, Try.ntmps25
  go_wp2_with (first
      | ((with_reducible refine at_slot 1 ?_); refine wl_box (A := (ceA x)) rfl rfl rfl ?_; intro W1 g1 k1 hb hle; have L1 := Lib.hid (Nat.le_trans HB.out.size hle); replace HB := Lib.hid (below_tr HB.out hb); clear hb hle)
      | ((with_reducible refine at_slot 4 ?_); refine wl_ld1 (v := .int .i64 x.n) rfl rfl rfl k1 Try.underlying2 rfl rfl ?_)
      | ((with_reducible refine at_slot 18 ?_); refine wl_ld1 (v := .int .i64 x.n) rfl rfl rfl k1 Try.underlying2 rfl rfl ?_)
      | ((with_reducible refine at_slot 22 ?_); refine wl_ld (evA x.f) rfl rfl rfl k1 Try.underlying24 rfl evInfo (ceA_pf x) ?_)
      | ((with_reducible refine at_slot 24 ?_); refine wl_ld (evA x.l) rfl rfl rfl k1 Try.underlying24 rfl evInfo (ceA_pl x) ?_)
      | ((with_reducible refine at_slot 25 ?_); refine wl_call rfl rfl Try.func34 (by kernel_rfl) rfl (fol_yes HF.out _) rfl ?_; intro V1 hb; replace k1 := k1.keep hb; replace HB := Lib.hid (below_tr HB.out hb); clear hb)
      | ((with_reducible refine at_slot 29 ?_); refine wl_ld1 (v := .int .i64 x.n) rfl rfl rfl k1 Try.underlying2 rfl rfl ?_)
      | ((with_reducible refine at_slot 32 ?_); refine wl_ld1 (v := .int .i64 x.l.t) rfl rfl rfl k1 Try.underlying2 rfl rfl ?_)
      | ((with_reducible refine at_slot 35 ?_); refine wl_ld1 (v := .int .i64 x.f.t) rfl rfl rfl k1 Try.underlying2 rfl rfl ?_))
  go_ret
  exact ⟨rfl, HB.out⟩
set_option maxHeartbeats 4000000 in
set_option maxRecDepth 100000 in
theorem ends7 {x : Ce} (hi : CeIn x) (h : 1 < x.n) (hf : ¬ Fol x.f x.l) (w : World) :
    Calls Try.prog 25 #[.agg (ceA x)] w fun e w' => e = .returned (.bool false) ∧ Below w.heap.size w w' := by
  have d1 : (x.n == 1) = false := by simp; omega
  have d2 : decide (1 < x.n) = true := by simp; omega
  have H := Lib.hid h
  have HF := Lib.hid hf
  have HI := Lib.hid hi
  clear h hf hi
  have HB := Lib.hid (Below.refl w.heap.size w)
  go_enter Try.func25, Try.ntmps25
  go_wp2_with (first
      | ((with_reducible refine at_slot 1 ?_); refine wl_box (A := (ceA x)) rfl rfl rfl ?_; intro W1 g1 k1 hb hle; have L1 := Lib.hid (Nat.le_trans HB.out.size hle); replace HB := Lib.hid (below_tr HB.out hb); clear hb hle)
      | ((with_reducible refine at_slot 4 ?_); refine wl_ld1 (v := .int .i64 x.n) rfl rfl rfl k1 Try.underlying2 rfl rfl ?_)
      | ((with_reducible refine at_slot 18 ?_); refine wl_ld1 (v := .int .i64 x.n) rfl rfl rfl k1 Try.underlying2 rfl rfl ?_)
      | ((with_reducible refine at_slot 22 ?_); refine wl_ld (evA x.f) rfl rfl rfl k1 Try.underlying24 rfl evInfo (ceA_pf x) ?_)
      | ((with_reducible refine at_slot 24 ?_); refine wl_ld (evA x.l) rfl rfl rfl k1 Try.underlying24 rfl evInfo (ceA_pl x) ?_)
      | ((with_reducible refine at_slot 25 ?_); refine wl_call rfl rfl Try.func34 (by kernel_rfl) rfl (fol_no HI.out.f HI.out.l HF.out _) rfl ?_; intro V1 hb; replace k1 := k1.keep hb; replace HB := Lib.hid (below_tr HB.out hb); clear hb)
      | ((with_reducible refine at_slot 29 ?_); refine wl_ld1 (v := .int .i64 x.n) rfl rfl rfl k1 Try.underlying2 rfl rfl ?_)
      | ((with_reducible refine at_slot 32 ?_); refine wl_ld1 (v := .int .i64 x.l.t) rfl rfl rfl k1 Try.underlying2 rfl rfl ?_)
      | ((with_reducible refine at_slot 35 ?_); refine wl_ld1 (v := .int .i64 x.f.t) rfl rfl rfl k1 Try.underlying2 rfl rfl ?_))
  go_ret
  exact ⟨rfl, HB.out⟩
theorem ends_yes {x : Ce} (hi : CeIn x) (he : EndsOk x) (w : World) :
    Calls Try.prog 25 #[.agg (ceA x)] w fun e w' => e = .returned (.bool true) ∧ Below w.heap.size w w' := by
  by_cases h1 : x.n = 1
  · exact ends1 h1 he.f (he.one h1) w
  · have h : 1 < x.n := by have := he.n; omega
    exact ends5 hi h ⟨he.f, he.l, he.more h⟩ he.le w
theorem ends_bad {x : Ce} (hi : CeIn x) (he : ¬ EndsOk x) (w : World) :
    Calls Try.prog 25 #[.agg (ceA x)] w fun e w' => e = .returned (.bool false) ∧ Below w.heap.size w w' := by
  by_cases h1 : x.n = 1
  · by_cases hf : EvOk x.f
    · refine ends2 h1 hf (fun hl => he ?_) w
      exact ⟨by omega, hf, hl ▸ hf, fun _ => hl, fun h => by omega, by rw [← hl]; omega⟩
    · exact ends3 h1 hi.f hf w
  · by_cases h : 1 < x.n
    · by_cases hf : Fol x.f x.l
      · refine ends6 hi h hf (fun hl => he ?_) w
        exact ⟨by omega, hf.1, hf.2.1, fun h => absurd h h1, fun _ => hf.2.2, hl⟩
      · exact ends7 hi h hf w
    · exact ends4 (by omega) w

theorem isZero_yes (w : World) : Calls Try.prog 19 #[.agg (ceA zeroCe)] w fun e w' => e = .returned (.bool true) ∧ Below w.heap.size w w' := by
  have := isZero_any zeroCe w
  rwa [eqB_yes rfl] at this
theorem isZero_no {x : Ce} (h : ¬ x = zeroCe) (w : World) : Calls Try.prog 19 #[.agg (ceA x)] w fun e w' => e = .returned (.bool false) ∧ Below w.heap.size w w' := by
  have := isZero_any x w
  rwa [eqB_no h] at this
theorem isZero_is {x : Ce} (h : x = zeroCe) (w : World) : Calls Try.prog 19 #[.agg (ceA x)] w fun e w' => e = .returned (.bool true) ∧ Below w.heap.size w w' := by
  subst h; exact isZero_yes w
set_option maxHeartbeats 4000000 in
set_option maxRecDepth 100000 in
theorem ck1 {x : Ce} (h : x = zeroCe) (w : World) :
    Calls Try.prog 13 #[.agg (ceA x)] w fun e w' => e = .returned (.int .i64 0) ∧ Below w.heap.size w w' := by
  have H := Lib.hid h
  clear h
  have HB := Lib.hid (Below.refl w.heap.size w)
  go_enter Try.func13, Try.ntmps13
  go_wp2_with (first
      | ((with_reducible refine at_slot 1 ?_); refine wl_box (A := (ceA x)) rfl rfl rfl ?_; intro W1 g1 k1 hb hle; have L1 := Lib.hid (Nat.le_trans HB.out.size hle); replace HB := Lib.hid (below_tr HB.out hb); clear hb hle)
      | ((with_reducible refine at_slot 3 ?_); refine wl_ld0 rfl rfl rfl k1 Try.underlying28 rfl ceInfo ?_)
      | ((with_reducible refine at_slot 4 ?_); refine wl_call rfl rfl Try.func19 (by kernel_rfl) rfl (isZero_is H.out _) rfl ?_; intro V1 hb; replace k1 := k1.keep hb; replace HB := Lib.hid (below_tr HB.out hb); clear hb)
      | ((with_reducible refine at_slot 6 ?_); refine wl_ld0 rfl rfl rfl k1 Try.underlying28 rfl ceInfo ?_)
      | ((with_reducible refine at_slot 9 ?_); refine wl_ld0 rfl rfl rfl k1 Try.underlying28 rfl ceInfo ?_))
  go_ret
  exact ⟨rfl, HB.out⟩
set_option maxHeartbeats 4000000 in
set_option maxRecDepth 100000 in
theorem ck2 {x : Ce} (hi : CeIn x) (h : ¬ x = zeroCe) (he : EndsOk x) (hn : NumsOk x) (w : World) :
    Calls Try.prog 13 #[.agg (ceA x)] w fun e w' => e = .returned (.int .i64 0) ∧ Below w.heap.size w w' := by
  have H := Lib.hid h
  have HE := Lib.hid he
  have HN := Lib.hid hn
  have HI := Lib.hid hi
  clear h he hn hi
  have HB := Lib.hid (Below.refl w.heap.size w)
  go_enter Try.func13, Try.ntmps13
  go_wp2_with (first
      | ((with_reducible refine at_slot 1 ?_); refine wl_box (A := (ceA x)) rfl rfl rfl ?_; intro W1 g1 k1 hb hle; have L1 := Lib.hid (Nat.le_trans HB.out.size hle); replace HB := Lib.hid (below_tr HB.out hb); clear hb hle)
      | ((with_reducible refine at_slot 3 ?_); refine wl_ld0 rfl rfl rfl k1 Try.underlying28 rfl ceInfo ?_)
      | ((with_reducible refine at_slot 4 ?_); refine wl_call rfl rfl Try.func19 (by kernel_rfl) rfl (isZero_no H.out _) rfl ?_; intro V1 hb; replace k1 := k1.keep hb; replace HB := Lib.hid (below_tr HB.out hb); clear hb)
      | ((with_reducible refine at_slot 6 ?_); refine wl_ld0 rfl rfl rfl k1 Try.underlying28 rfl ceInfo ?_)
      | ((with_reducible refine at_slot 7 ?_); refine wl_call rfl rfl Try.func25 (by kernel_rfl) rfl (ends_yes HI.out HE.out _) rfl ?_; intro V2 hb; replace k1 := k1.keep hb; replace HB := Lib.hid (below_tr HB.out hb); clear hb)
      | ((with_reducible refine at_slot 9 ?_); refine wl_ld0 rfl rfl rfl k1 Try.underlying28 rfl ceInfo ?_)
      | ((with_reducible refine at_slot 10 ?_); refine wl_call rfl rfl Try.func26 (by kernel_rfl) rfl (nums_yes HI.out HE.out HN.out _) rfl ?_; intro V3 hb; replace k1 := k1.keep hb; replace HB := Lib.hid (below_tr HB.out hb); clear hb))
  go_ret
  exact ⟨rfl, HB.out⟩
set_option maxHeartbeats 4000000 in
set_option maxRecDepth 100000 in
theorem ck3 {x : Ce} (hi : CeIn x) (h : ¬ x = zeroCe) (he : EndsOk x) (hn : ¬ NumsOk x) (w : World) :
    Calls Try.prog 13 #[.agg (ceA x)] w fun e w' => e = .returned (.int .i64 2) ∧ Below w.heap.size w w' := by
  have H := Lib.hid h
  have HE := Lib.hid he
  have HN := Lib.hid hn
  have HI := Lib.hid hi
  clear h he hn hi
  have HB := Lib.hid (Below.refl w.heap.size w)
  go_enter Try.func13, Try.ntmps13
  go_wp2_with (first
      | ((with_reducible refine at_slot 1 ?_); refine wl_box (A := (ceA x)) rfl rfl rfl ?_; intro W1 g1 k1 hb hle; have L1 := Lib.hid (Nat.le_trans HB.out.size hle); replace HB := Lib.hid (below_tr HB.out hb); clear hb hle)
      | ((with_reducible refine at_slot 3 ?_); refine wl_ld0 rfl rfl rfl k1 Try.underlying28 rfl ceInfo ?_)
      | ((with_reducible refine at_slot 4 ?_); refine wl_call rfl rfl Try.func19 (by kernel_rfl) rfl (isZero_no H.out _) rfl ?_; intro V1 hb; replace k1 := k1.keep hb; replace HB := Lib.hid (below_tr HB.out hb); clear hb)
      | ((with_reducible refine at_slot 6 ?_); refine wl_ld0 rfl rfl rfl k1 Try.underlying28 rfl ceInfo ?_)
      | ((with_reducible refine at_slot 7 ?_); refine wl_call rfl rfl Try.func25 (by kernel_rfl) rfl (ends_yes HI.out HE.out _) rfl ?_; intro V2 hb; replace k1 := k1.keep hb; replace HB := Lib.hid (below_tr HB.out hb); clear hb)
      | ((with_reducible refine at_slot 9 ?_); refine wl_ld0 rfl rfl rfl k1 Try.underlying28 rfl ceInfo ?_)
      | ((with_reducible refine at_slot 10 ?_); refine wl_call rfl rfl Try.func26 (by kernel_rfl) rfl (nums_bad HI.out HE.out HN.out _) rfl ?_; intro V3 hb; replace k1 := k1.keep hb; replace HB := Lib.hid (below_tr HB.out hb); clear hb))
  go_ret
  exact ⟨rfl, HB.out⟩
set_option maxHeartbeats 4000000 in
set_option maxRecDepth 100000 in
theorem ck4 {x : Ce} (hi : CeIn x) (h : ¬ x = zeroCe) (he : ¬ EndsOk x) (w : World) :
    Calls Try.prog 13 #[.agg (ceA x)] w fun e w' => e = .returned (.int .i64 2) ∧ Below w.heap.size w w' := by
  have H := Lib.hid h
  have HE := Lib.hid he
  have HI := Lib.hid hi
  clear h he hi
  have HB := Lib.hid (Below.refl w.heap.size w)
  go_enter Try.func13, Try.ntmps13
  go_wp2_with (first
      | ((with_reducible refine at_slot 1 ?_); refine wl_box (A := (ceA x)) rfl rfl rfl ?_; intro W1 g1 k1 hb hle; have L1 := Lib.hid (Nat.le_trans HB.out.size hle); replace HB := Lib.hid (below_tr HB.out hb); clear hb hle)
      | ((with_reducible refine at_slot 3 ?_); refine wl_ld0 rfl rfl rfl k1 Try.underlying28 rfl ceInfo ?_)
      | ((with_reducible refine at_slot 4 ?_); refine wl_call rfl rfl Try.func19 (by kernel_rfl) rfl (isZero_no H.out _) rfl ?_; intro V1 hb; replace k1 := k1.keep hb; replace HB := Lib.hid (below_tr HB.out hb); clear hb)
      | ((with_reducible refine at_slot 6 ?_); refine wl_ld0 rfl rfl rfl k1 Try.underlying28 rfl ceInfo ?_)
      | ((with_reducible refine at_slot 7 ?_); refine wl_call rfl rfl Try.func25 (by kernel_rfl) rfl (ends_bad HI.out HE.out _) rfl ?_; intro V2 hb; replace k1 := k1.keep hb; replace HB := Lib.hid (below_tr HB.out hb); clear hb)
      | ((with_reducible refine at_slot 9 ?_); refine wl_ld0 rfl rfl rfl k1 Try.underlying28 rfl ceInfo ?_))
  go_ret
  exact ⟨rfl, HB.out⟩
theorem ck_yes {x : Ce} (hi : CeIn x) (h : CeOk x) (w : World) :
    Calls Try.prog 13 #[.agg (ceA x)] w fun e w' => e = .returned (.int .i64 0) ∧ Below w.heap.size w w' := by
  by_cases hz : x = zeroCe
  · exact ck1 hz w
  · rcases h with h | h
    · exact absurd h hz
    · exact ck2 hi hz h.1 h.2 w
theorem ck_no {x : Ce} (hi : CeIn x) (h : ¬ CeOk x) (w : World) :
    Calls Try.prog 13 #[.agg (ceA x)] w fun e w' => e = .returned (.int .i64 2) ∧ Below w.heap.size w w' := by
  have hz : ¬ x = zeroCe := fun e => h (Or.inl e)
  by_cases he : EndsOk x
  · exact ck3 hi hz he (fun hn => h (Or.inr ⟨he, hn⟩)) w
  · exact ck4 hi hz he w
theorem ck_any {x : Ce} (hi : CeIn x) (w : World) :
    Calls Try.prog 13 #[.agg (ceA x)] w fun e w' => e = .returned (.int .i64 (ceE x)) ∧ Below w.heap.size w w' := by
  by_cases h : CeOk x
  · rw [ceE_yes h]; exact ck_yes hi h w
  · rw [ceE_no h]; exact ck_no hi h w
end Go.Proofs.Ytjdjebhimljedaa
