/-
  WALKS: cell.areRightNumbers, where the first tests hold; areRightEnds; Check.
-/
import Derived.Test.YtjdjebhimljedaaBw
namespace Go.Proofs.Ytjdjebhimljedaa
open Go Go.RowKit

theorem most_n {k : Nat} (hk : k < 18446744073709551616) : 18446744073709551615 * k < 340282366920938463463374607431768211456 := by
  have : 18446744073709551615 * k ≤ 18446744073709551615 * 18446744073709551615 := Nat.mul_le_mul_left _ (by omega)
  omega
def maxU : U := ⟨18446744073709551615, by decide⟩
theorem maxU_hi : hiZ maxU = 0 := by decide
theorem maxU_lo : loZ maxU = 18446744073709551615 := by decide
set_option maxHeartbeats 4000000 in
set_option maxRecDepth 100000 in
/-- areRightNumbers, where the first tests hold. -/
theorem nums_most (x : Ce) (hi : CeIn x) (he : EndsOk x) (h1 : 0 ≤ x.r) (h2 : 0 ≤ x.g) (h3 : 0 ≤ x.s) (h4 : x.s ≤ x.l.t - x.f.t) (h5 : x.r + x.g < x.n) (w : World) :
    Calls Try.prog 26 #[.agg (ceA x)] w fun e w' => e = .returned (.bool (!lessB (timesU maxU (x.n - 1).toNat) x.i)) ∧ Below w.heap.size w w' := by
  have u0 := he.n; have u1 := he.f.t0; have u2 := he.f.t1; have u3 := he.l.t0; have u4 := he.l.t1; have u5 := he.t; have u6 := he.le
  have q0 := hi.n0; have q1 := hi.n1
  obtain ⟨k, hk⟩ : ∃ k : Nat, k = (x.n - 1).toNat := ⟨_, rfl⟩
  have hk' : x.n - 1 = (k : Int) := by omega
  have hk1 : k < 18446744073709551616 := by omega
  rw [← hk]
  have HC : Hid (∀ w, Calls Try.prog 35 #[.agg #[.int .u64 0, .int .u64 18446744073709551615], .int .u64 k] w fun e w' => e = .returned (.tuple #[.agg (wdA (timesU maxU k)), .int .i64 0]) ∧ Below w.heap.size w w') := Lib.hid (fun w => by
    have := times_any maxU k hk1 w
    rw [maxU_hi, maxU_lo, show timesE maxU k = 0 from cutE_lt (most_n hk1)] at this
    exact this)
  generalize timesU maxU k = M at *
  clear hk he hi
  have m1 : IntKind.i64.wrap (x.n - 1) = (k : Int) := by rw [IntKind.wrap_i64]; omega
  have m2 : IntKind.u64.wrap (k : Int) = (k : Int) := by rw [IntKind.wrap_u64]; omega
  have HK0 := Lib.hid hk'
  have d1 : decide (x.r < 0) = false := by simp; omega
  have d2 : decide (x.g < 0) = false := by simp; omega
  have d3 : decide (x.s < 0) = false := by simp; omega
  have d4 : decide (x.l.t - x.f.t < x.s) = false := by simp; omega
  have d5 : decide (x.n - x.r ≤ x.g) = false := by simp; omega
  clear hk'
  have HB := Lib.hid (Below.refl w.heap.size w)
  go_enter Try.func26, Try.ntmps26
  go_wp2_with (first
      | ((with_reducible refine at_slot 1 ?_); refine wl_box (A := (ceA x)) rfl rfl rfl ?_; intro W1 g1 k1 hb hle; have L1 := Lib.hid (Nat.le_trans HB.out.size hle); replace HB := Lib.hid (below_tr HB.out hb); clear hb hle)
      | ((with_reducible refine at_slot 6 ?_); refine wl_ld1 (v := .int .i64 x.r) rfl rfl rfl k1 Try.underlying2 rfl rfl ?_)
      | ((with_reducible refine at_slot 10 ?_); refine wl_ld1 (v := .int .i64 x.g) rfl rfl rfl k1 Try.underlying2 rfl rfl ?_)
      | ((with_reducible refine at_slot 15 ?_); refine wl_ld1 (v := .int .i64 x.s) rfl rfl rfl k1 Try.underlying2 rfl rfl ?_)
      | ((with_reducible refine at_slot 20 ?_); refine wl_ld1 (v := .int .i64 x.s) rfl rfl rfl k1 Try.underlying2 rfl rfl ?_)
      | ((with_reducible refine at_slot 23 ?_); refine wl_ld1 (v := .int .i64 x.l.t) rfl rfl rfl k1 Try.underlying2 rfl rfl ?_)
      | ((with_reducible refine at_slot 26 ?_); refine wl_ld1 (v := .int .i64 x.f.t) rfl rfl rfl k1 Try.underlying2 rfl rfl ?_)
      | ((with_reducible refine at_slot 31 ?_); refine wl_ld1 (v := .int .i64 x.g) rfl rfl rfl k1 Try.underlying2 rfl rfl ?_)
      | ((with_reducible refine at_slot 33 ?_); refine wl_ld1 (v := .int .i64 x.n) rfl rfl rfl k1 Try.underlying2 rfl rfl ?_)
      | ((with_reducible refine at_slot 35 ?_); refine wl_ld1 (v := .int .i64 x.r) rfl rfl rfl k1 Try.underlying2 rfl rfl ?_))
  refine wp_region_fl (J := fun listed act W => ∃ (b0 b1 b2 b3 b4 b5 b6 b7 b8 b9 b10 b11 : Bool) (x0 x1 x2 x3 x4 x5 x6 x7 x8 x9 x11 : Value) (g : Nat), listed = #[b0, b1, b2, b3, b4, b5, b6, b7, b8, b9, b10, b11] ∧ act = { tmps := #[.agg (ceA x), .pointer (some ⟨g1, 0, none⟩), .bool false, x9, x11, .pointer (some ⟨g1, 11, none⟩), .int .i64 x.r, .bool false, .bool false, .pointer (some ⟨g1, 12, none⟩), .int .i64 x.g, .bool false, .bool false, .bool false, .pointer (some ⟨g1, 13, none⟩), .int .i64 x.s, .bool false, .bool false, .bool false, .pointer (some ⟨g1, 13, none⟩), .int .i64 x.s, .pointer (some ⟨g1, 5, none⟩), .pointer (some ⟨g1, 5, none⟩), .int .i64 x.l.t, .pointer (some ⟨g1, 1, none⟩), .pointer (some ⟨g1, 1, none⟩), .int .i64 x.f.t, .int .i64 (x.l.t - x.f.t), .bool false, .bool false, .pointer (some ⟨g1, 12, none⟩), .int .i64 x.g, .pointer (some ⟨g1, 0, none⟩), .int .i64 x.n, .pointer (some ⟨g1, 11, none⟩), .int .i64 x.r, .int .i64 (x.n - x.r), .bool false, x6, x0, x1, x2, x3, x4, x5, x7, x8, undef, undef, undef, undef, undef, undef, undef, undef, undef], defers := [] } ∧ FJ (W1.heap.size) W1 W 26 (wdA U.zero) (wdA M) b9 b10 x9 g ∧ ((b0 = true → x0 = .agg #[.int .u64 0, .int .u64 18446744073709551615]) ∧ (b1 = true → x1 = .pointer (some ⟨g1, 0, none⟩)) ∧ (b2 = true → x2 = .int .i64 x.n) ∧ (b3 = true → x3 = .int .i64 k) ∧ (b4 = true → x4 = .int .u64 k) ∧ (b5 = true → x5 = .tuple #[.agg (wdA M), .int .i64 0]) ∧ (b6 = true → x6 = .tuple #[.agg (wdA M), .int .i64 0]) ∧ (b7 = true → x7 = .agg (wdA M)) ∧ (b8 = true → x8 = .int .i64 0) ∧ (b11 = true → x11 = .int .i64 0) ∧ True)) (by kernel_rfl) ⟨false, false, false, false, false, false, false, false, false, false, false, false, undef, undef, undef, undef, undef, undef, undef, undef, undef, undef, undef, W1.heap.size, rfl, rfl, FJ.start W1 26 (wdA U.zero) (wdA M), nofun, nofun, nofun, nofun, nofun, nofun, nofun, nofun, nofun, nofun, trivial⟩ ?_ ?_
  · intro listed act W i hJ hi
    obtain ⟨b0, b1, b2, b3, b4, b5, b6, b7, b8, b9, b10, b11, x0, x1, x2, x3, x4, x5, x6, x7, x8, x9, x11, g, rfl, rfl, hJ, hE⟩ := hJ
    have HJ := Lib.hid hJ
    have HE := Lib.hid hE
    obtain ⟨hi1, hi2, hi3⟩ := fl_spec hi
    clear hJ hE hi
    have hi4 : i < 12 := hi1
    clear hi1
    have hcase : i = 0 ∨ i = 1 ∨ i = 2 ∨ i = 3 ∨ i = 4 ∨ i = 5 ∨ i = 6 ∨ i = 7 ∨ i = 8 ∨ i = 9 ∨ i = 10 ∨ i = 11 := by omega
    clear hi4
    rcases hcase with rfl | rfl | rfl | rfl | rfl | rfl | rfl | rfl | rfl | rfl | rfl | rfl
    · refine wpOp_step (o := _) rfl (fun K hK => ?_)
      have HK := Lib.hid hK
      clear hK
      clear hi3 hi2
      go_simp
      go_at_call 18
      refine (of_bel _ _).mono ?_
      rintro e w1 ⟨rfl, hb⟩
      exact HK.out _ _ ⟨_, _, _, _, _, _, _, _, _, _, _, _, _, _, _, _, _, _, _, _, _, _, _, _, rfl, rfl, HJ.out.grow hb, fun _ => rfl, HE.out.2.1, HE.out.2.2.1, HE.out.2.2.2.1, HE.out.2.2.2.2.1, HE.out.2.2.2.2.2.1, HE.out.2.2.2.2.2.2.1, HE.out.2.2.2.2.2.2.2.1, HE.out.2.2.2.2.2.2.2.2.1, HE.out.2.2.2.2.2.2.2.2.2.1, trivial⟩
    · refine wpOp_step (o := _) rfl (fun K hK => ?_)
      have HK := Lib.hid hK
      clear hK
      clear hi3 hi2
      go_simp
      exact HK.out _ _ ⟨_, _, _, _, _, _, _, _, _, _, _, _, _, _, _, _, _, _, _, _, _, _, _, _, rfl, rfl, HJ.out, HE.out.1, fun _ => rfl, HE.out.2.2.1, HE.out.2.2.2.1, HE.out.2.2.2.2.1, HE.out.2.2.2.2.2.1, HE.out.2.2.2.2.2.2.1, HE.out.2.2.2.2.2.2.2.1, HE.out.2.2.2.2.2.2.2.2.1, HE.out.2.2.2.2.2.2.2.2.2.1, trivial⟩
    · refine wpOp_step (o := _) rfl (fun K hK => ?_)
      have HK := Lib.hid hK
      clear hK
      have hd := hi3 _ rfl
      simp [Region.binds] at hd
      have q1 : b1 = true := by (cases b1 with | true => rfl | false => simp at hd)
      clear hi3 hi2 hd
      obtain rfl := HE.out.2.1 q1
      clear q1
      have cc0 := (k1.upd HJ.out.upd (Blk.ne_of_le k1 HJ.out.low)).cell 0 rfl
      go_simp
      exact HK.out _ _ ⟨_, _, _, _, _, _, _, _, _, _, _, _, _, _, _, _, _, _, _, _, _, _, _, _, rfl, rfl, HJ.out, HE.out.1, HE.out.2.1, fun _ => rfl, HE.out.2.2.2.1, HE.out.2.2.2.2.1, HE.out.2.2.2.2.2.1, HE.out.2.2.2.2.2.2.1, HE.out.2.2.2.2.2.2.2.1, HE.out.2.2.2.2.2.2.2.2.1, HE.out.2.2.2.2.2.2.2.2.2.1, trivial⟩
    · refine wpOp_step (o := _) rfl (fun K hK => ?_)
      have HK := Lib.hid hK
      clear hK
      have hd := hi3 _ rfl
      simp [Region.binds] at hd
      have q2 : b2 = true := by (cases b2 with | true => rfl | false => simp at hd)
      clear hi3 hi2 hd
      obtain rfl := HE.out.2.2.1 q2
      clear q2
      go_simp
      exact HK.out _ _ ⟨_, _, _, _, _, _, _, _, _, _, _, _, _, _, _, _, _, _, _, _, _, _, _, _, rfl, rfl, HJ.out, HE.out.1, HE.out.2.1, HE.out.2.2.1, fun _ => rfl, HE.out.2.2.2.2.1, HE.out.2.2.2.2.2.1, HE.out.2.2.2.2.2.2.1, HE.out.2.2.2.2.2.2.2.1, HE.out.2.2.2.2.2.2.2.2.1, HE.out.2.2.2.2.2.2.2.2.2.1, trivial⟩
    · refine wpOp_step (o := _) rfl (fun K hK => ?_)
      have HK := Lib.hid hK
      clear hK
      have hd := hi3 _ rfl
      simp [Region.binds] at hd
      have q3 : b3 = true := by (cases b3 with | true => rfl | false => simp at hd)
      clear hi3 hi2 hd
      obtain rfl := HE.out.2.2.2.1 q3
      clear q3
      go_simp
      exact HK.out _ _ ⟨_, _, _, _, _, _, _, _, _, _, _, _, _, _, _, _, _, _, _, _, _, _, _, _, rfl, rfl, HJ.out, HE.out.1, HE.out.2.1, HE.out.2.2.1, HE.out.2.2.2.1, fun _ => rfl, HE.out.2.2.2.2.2.1, HE.out.2.2.2.2.2.2.1, HE.out.2.2.2.2.2.2.2.1, HE.out.2.2.2.2.2.2.2.2.1, HE.out.2.2.2.2.2.2.2.2.2.1, trivial⟩
    · refine wpOp_step (o := _) rfl (fun K hK => ?_)
      have HK := Lib.hid hK
      clear hK
      have hd := hi3 _ rfl
      simp [Region.binds] at hd
      have q0 : b0 = true := by (cases b0 with | true => rfl | false => simp at hd)
      have q4 : b4 = true := by (cases b4 with | true => rfl | false => simp at hd)
      clear hi3 hi2 hd
      obtain rfl := HE.out.1 q0
      obtain rfl := HE.out.2.2.2.2.1 q4
      clear q0 q4
      go_simp
      go_at_call 35
      refine (HC.out _).mono ?_
      rintro e w1 ⟨rfl, hb⟩
      exact HK.out _ _ ⟨_, _, _, _, _, _, _, _, _, _, _, _, _, _, _, _, _, _, _, _, _, _, _, _, rfl, rfl, HJ.out.grow hb, HE.out.1, HE.out.2.1, HE.out.2.2.1, HE.out.2.2.2.1, HE.out.2.2.2.2.1, fun _ => rfl, HE.out.2.2.2.2.2.2.1, HE.out.2.2.2.2.2.2.2.1, HE.out.2.2.2.2.2.2.2.2.1, HE.out.2.2.2.2.2.2.2.2.2.1, trivial⟩
    · refine wpOp_step (o := _) rfl (fun K hK => ?_)
      have HK := Lib.hid hK
      clear hK
      have hd := hi3 _ rfl
      simp [Region.binds] at hd
      have q5 : b5 = true := by (cases b5 with | true => rfl | false => simp at hd)
      clear hi3 hi2 hd
      obtain rfl := HE.out.2.2.2.2.2.1 q5
      clear q5
      go_simp
      exact HK.out _ _ ⟨_, _, _, _, _, _, _, _, _, _, _, _, _, _, _, _, _, _, _, _, _, _, _, _, rfl, rfl, HJ.out, HE.out.1, HE.out.2.1, HE.out.2.2.1, HE.out.2.2.2.1, HE.out.2.2.2.2.1, HE.out.2.2.2.2.2.1, fun _ => rfl, HE.out.2.2.2.2.2.2.2.1, HE.out.2.2.2.2.2.2.2.2.1, HE.out.2.2.2.2.2.2.2.2.2.1, trivial⟩
    · refine wpOp_step (o := _) rfl (fun K hK => ?_)
      have HK := Lib.hid hK
      clear hK
      have hd := hi3 _ rfl
      simp [Region.binds] at hd
      have q6 : b6 = true := by (cases b6 with | true => rfl | false => simp at hd)
      clear hi3 hi2 hd
      obtain rfl := HE.out.2.2.2.2.2.2.1 q6
      clear q6
      go_simp
      exact HK.out _ _ ⟨_, _, _, _, _, _, _, _, _, _, _, _, _, _, _, _, _, _, _, _, _, _, _, _, rfl, rfl, HJ.out, HE.out.1, HE.out.2.1, HE.out.2.2.1, HE.out.2.2.2.1, HE.out.2.2.2.2.1, HE.out.2.2.2.2.2.1, HE.out.2.2.2.2.2.2.1, fun _ => rfl, HE.out.2.2.2.2.2.2.2.2.1, HE.out.2.2.2.2.2.2.2.2.2.1, trivial⟩
    · refine wpOp_step (o := _) rfl (fun K hK => ?_)
      have HK := Lib.hid hK
      clear hK
      have hd := hi3 _ rfl
      simp [Region.binds] at hd
      have q6 : b6 = true := by (cases b6 with | true => rfl | false => simp at hd)
      clear hi3 hi2 hd
      obtain rfl := HE.out.2.2.2.2.2.2.1 q6
      clear q6
      go_simp
      exact HK.out _ _ ⟨_, _, _, _, _, _, _, _, _, _, _, _, _, _, _, _, _, _, _, _, _, _, _, _, rfl, rfl, HJ.out, HE.out.1, HE.out.2.1, HE.out.2.2.1, HE.out.2.2.2.1, HE.out.2.2.2.2.1, HE.out.2.2.2.2.2.1, HE.out.2.2.2.2.2.2.1, HE.out.2.2.2.2.2.2.2.1, fun _ => rfl, HE.out.2.2.2.2.2.2.2.2.2.1, trivial⟩
    · refine wpOp_step (o := _) rfl (fun K hK => ?_)
      have HK := Lib.hid hK
      clear hK
      clear hi3
      obtain rfl : b9 = false := hi2
      go_simp
      exact HK.out _ _ ⟨_, _, _, _, _, _, _, _, _, _, _, _, _, _, _, _, _, _, _, _, _, _, _, _, rfl, rfl, HJ.out.alloc, HE.out.1, HE.out.2.1, HE.out.2.2.1, HE.out.2.2.2.1, HE.out.2.2.2.2.1, HE.out.2.2.2.2.2.1, HE.out.2.2.2.2.2.2.1, HE.out.2.2.2.2.2.2.2.1, HE.out.2.2.2.2.2.2.2.2.1, HE.out.2.2.2.2.2.2.2.2.2.1, trivial⟩
    · refine wpOp_step (o := _) rfl (fun K hK => ?_)
      have HK := Lib.hid hK
      clear hK
      have hd := hi3 _ rfl
      simp [Region.binds] at hd
      have q9 : b9 = true := by (cases b9 with | true => rfl | false => simp at hd)
      have q7 : b7 = true := by (cases b7 with | true => rfl | false => simp at hd)
      clear hi3 hi2 hd
      obtain rfl := HE.out.2.2.2.2.2.2.2.1 q7
      subst q9
      clear q7
      obtain ⟨hp, _⟩ := HJ.out.var rfl
      subst hp
      rw [if_pos (by rfl)]
      refine wp_store_mid 26 _ _ rfl g 0 (wdA M) rfl rfl (HJ.out.there (by rfl)) wdInfo (wdA_one M) ?_
      exact HK.out _ _ ⟨_, _, _, _, _, _, _, _, _, _, _, _, _, _, _, _, _, _, _, _, _, _, _, _, rfl, rfl, HJ.out.store (by rfl), HE.out.1, HE.out.2.1, HE.out.2.2.1, HE.out.2.2.2.1, HE.out.2.2.2.2.1, HE.out.2.2.2.2.2.1, HE.out.2.2.2.2.2.2.1, HE.out.2.2.2.2.2.2.2.1, HE.out.2.2.2.2.2.2.2.2.1, HE.out.2.2.2.2.2.2.2.2.2.1, trivial⟩
    · refine wpOp_step (o := _) rfl (fun K hK => ?_)
      have HK := Lib.hid hK
      clear hK
      have hd := hi3 _ rfl
      simp [Region.binds] at hd
      have q8 : b8 = true := by (cases b8 with | true => rfl | false => simp at hd)
      clear hi3 hi2 hd
      obtain rfl := HE.out.2.2.2.2.2.2.2.2.1 q8
      clear q8
      go_simp
      exact HK.out _ _ ⟨_, _, _, _, _, _, _, _, _, _, _, _, _, _, _, _, _, _, _, _, _, _, _, _, rfl, rfl, HJ.out, HE.out.1, HE.out.2.1, HE.out.2.2.1, HE.out.2.2.2.1, HE.out.2.2.2.2.1, HE.out.2.2.2.2.2.1, HE.out.2.2.2.2.2.2.1, HE.out.2.2.2.2.2.2.2.1, HE.out.2.2.2.2.2.2.2.2.1, fun _ => rfl, trivial⟩
  intro listed act W hJ hr
  obtain ⟨b0, b1, b2, b3, b4, b5, b6, b7, b8, b9, b10, b11, x0, x1, x2, x3, x4, x5, x6, x7, x8, x9, x11, g, rfl, rfl, hJ, hE⟩ := hJ
  have HJ := Lib.hid hJ
  have HE := Lib.hid hE
  clear hJ hE
  have q0 : b0 = true := by
    cases b0 with
    | true => rfl
    | false =>
      have hm : 0 ∈ ([] : List Nat) := by rw [← hr]; exact fl_in (o := _) rfl rfl (by simp [Region.binds])
      cases hm
  subst q0
  have q1 : b1 = true := by
    cases b1 with
    | true => rfl
    | false =>
      have hm : 1 ∈ ([] : List Nat) := by rw [← hr]; exact fl_in (o := _) rfl rfl (by simp [Region.binds])
      cases hm
  subst q1
  have q2 : b2 = true := by
    cases b2 with
    | true => rfl
    | false =>
      have hm : 2 ∈ ([] : List Nat) := by rw [← hr]; exact fl_in (o := _) rfl rfl (by simp [Region.binds])
      cases hm
  subst q2
  have q3 : b3 = true := by
    cases b3 with
    | true => rfl
    | false =>
      have hm : 3 ∈ ([] : List Nat) := by rw [← hr]; exact fl_in (o := _) rfl rfl (by simp [Region.binds])
      cases hm
  subst q3
  have q4 : b4 = true := by
    cases b4 with
    | true => rfl
    | false =>
      have hm : 4 ∈ ([] : List Nat) := by rw [← hr]; exact fl_in (o := _) rfl rfl (by simp [Region.binds])
      cases hm
  subst q4
  have q5 : b5 = true := by
    cases b5 with
    | true => rfl
    | false =>
      have hm : 5 ∈ ([] : List Nat) := by rw [← hr]; exact fl_in (o := _) rfl rfl (by simp [Region.binds])
      cases hm
  subst q5
  have q6 : b6 = true := by
    cases b6 with
    | true => rfl
    | false =>
      have hm : 6 ∈ ([] : List Nat) := by rw [← hr]; exact fl_in (o := _) rfl rfl (by simp [Region.binds])
      cases hm
  subst q6
  have q7 : b7 = true := by
    cases b7 with
    | true => rfl
    | false =>
      have hm : 7 ∈ ([] : List Nat) := by rw [← hr]; exact fl_in (o := _) rfl rfl (by simp [Region.binds])
      cases hm
  subst q7
  have q8 : b8 = true := by
    cases b8 with
    | true => rfl
    | false =>
      have hm : 8 ∈ ([] : List Nat) := by rw [← hr]; exact fl_in (o := _) rfl rfl (by simp [Region.binds])
      cases hm
  subst q8
  have q9 : b9 = true := by
    cases b9 with
    | true => rfl
    | false =>
      have hm : 9 ∈ ([] : List Nat) := by rw [← hr]; exact fl_in (o := _) rfl rfl (by simp [Region.binds])
      cases hm
  subst q9
  have q10 : b10 = true := by
    cases b10 with
    | true => rfl
    | false =>
      have hm : 10 ∈ ([] : List Nat) := by rw [← hr]; exact fl_in (o := _) rfl rfl (by simp [Region.binds])
      cases hm
  subst q10
  have q11 : b11 = true := by
    cases b11 with
    | true => rfl
    | false =>
      have hm : 11 ∈ ([] : List Nat) := by rw [← hr]; exact fl_in (o := _) rfl rfl (by simp [Region.binds])
      cases hm
  subst q11
  clear hr
  obtain rfl := HE.out.1 rfl
  obtain rfl := HE.out.2.1 rfl
  obtain rfl := HE.out.2.2.1 rfl
  obtain rfl := HE.out.2.2.2.1 rfl
  obtain rfl := HE.out.2.2.2.2.1 rfl
  obtain rfl := HE.out.2.2.2.2.2.1 rfl
  obtain rfl := HE.out.2.2.2.2.2.2.1 rfl
  obtain rfl := HE.out.2.2.2.2.2.2.2.1 rfl
  obtain rfl := HE.out.2.2.2.2.2.2.2.2.1 rfl
  obtain rfl := HE.out.2.2.2.2.2.2.2.2.2.1 rfl
  obtain ⟨hp, hvar⟩ := HJ.out.var rfl
  subst hp
  have hvar : W.heap[g]? = some (.cells (wdA M) 26 (0, 0)) := hvar
  have HVAR := Lib.hid hvar
  clear hvar
  have HUPD := Lib.hid HJ.out.upd
  have HLOW := Lib.hid HJ.out.low
  clear HJ HE
  have hlow := HLOW.out
  have k2 : Blk W g 26 (wdA M) := HVAR.out
  replace k1 := k1.upd HUPD.out (Blk.ne_of_le k1 hlow)
  replace HB := Lib.hid (HB.out.trans (HUPD.out.below HB.out.size (Nat.le_trans HB.out.size hlow)))
  clear HVAR HUPD HLOW hlow
  go_wp2_with (first
      | ((with_reducible refine at_slot 50 ?_); refine wl_ld0 rfl rfl rfl k2 Try.underlying26 rfl wdInfo ?_)
      | ((with_reducible refine at_slot 52 ?_); refine wl_ld (wdA x.i) rfl rfl rfl k1 Try.underlying26 rfl wdInfo (ceA_pi x) ?_)
      | ((with_reducible refine at_slot 53 ?_); refine wl_call rfl rfl Try.func36 (by kernel_rfl) rfl (less_any M x.i _) rfl ?_; intro V1 hb; replace k1 := k1.keep hb; replace k2 := k2.keep hb; replace HB := Lib.hid (below_tr HB.out hb); clear hb))
  go_ret
  exact ⟨rfl, HB.out⟩
end Go.Proofs.Ytjdjebhimljedaa
