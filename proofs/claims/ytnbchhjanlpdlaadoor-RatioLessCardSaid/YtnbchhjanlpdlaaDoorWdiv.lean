/-
  WALKS: wide.Div, wide.Times: what they answer, of any number and any other one of 64 bits.
-/
import Derived.Test.YtnbchhjanlpdlaaDoorAdd
import Derived.Test.YtnbchhjanlpdlaaDoorDiv
namespace Go.Proofs.YtnbchhjanlpdlaaDoor
open Go Go.RowKit

theorem val_nat (a : U) : a.n = a.n / 18446744073709551616 * 18446744073709551616 + a.n % 18446744073709551616 := by omega
theorem hi_nat (a : U) : a.n / 18446744073709551616 < 18446744073709551616 := by have := a.lt; omega

theorem mul_any (x y : Int) (hx : 0 ≤ x) (hx' : x ≤ 18446744073709551615) (hy : 0 ≤ y) (hy' : y ≤ 18446744073709551615) : ∃ h l : Int, x * y = h * 18446744073709551616 + l ∧ 0 ≤ h ∧ h ≤ 18446744073709551615 ∧ 0 ≤ l ∧ l ≤ 18446744073709551615 ∧
    ∀ w, Calls Tryd.prog 44 #[.int .u64 x, .int .u64 y] w fun e w' => e = .returned (.tuple #[.int .u64 h, .int .u64 l]) ∧ w = w' := by
  obtain ⟨x, rfl⟩ := Int.eq_ofNat_of_zero_le hx
  obtain ⟨y, rfl⟩ := Int.eq_ofNat_of_zero_le hy
  have hm : x * y ≤ 18446744073709551615 * 18446744073709551615 := Nat.mul_le_mul (by omega) (by omega)
  refine ⟨((x * y / 18446744073709551616 : Nat) : Int), ((x * y % 18446744073709551616 : Nat) : Int), ?_, by omega, ?_, by omega, by omega, fun w => ?_⟩
  · rw [show (x : Int) * (y : Int) = ((x * y : Nat) : Int) by simp]
    generalize x * y = z at *
    omega
  · generalize x * y = z at *
    omega
  · refine (Tryd.bits_Mul64 x y (by omega) (by omega) w).mono ?_
    rintro e w' ⟨rfl, rfl⟩
    exact ⟨rfl, rfl⟩

theorem times_val (a : U) (k : Nat) : ((a.n * k : Nat) : Int) = hiZ a * (k : Int) * 18446744073709551616 + loZ a * (k : Int) := by
  rw [Int.natCast_mul, a.val, Int.add_mul, Int.mul_right_comm]

set_option maxHeartbeats 400000 in
theorem times_any (a : U) (k : Nat) (hk : k < 18446744073709551616) (w : World) :
    Calls Tryd.prog 11 #[.agg #[.int .u64 (hiZ a), .int .u64 (loZ a)], .int .u64 k] w fun e w' =>
      e = .returned (.tuple #[.agg #[.int .u64 (hiZ (timesU a k)), .int .u64 (loZ (timesU a k))], .int .i64 (timesE a k)]) ∧ Below w.heap.size w w' := by
  have hv := times_val a k
  obtain ⟨fl, l, e1, f0, f1, l0, l1, c1⟩ := mul_any (loZ a) k (loZ_nonneg a) (loZ_le a) (by omega) (by omega)
  obtain ⟨ov, fh, e2, o0, o1, h0, h1, c2⟩ := mul_any (hiZ a) k (hiZ_nonneg a) (hiZ_le a) (by omega) (by omega)
  rw [e1, e2] at hv
  have e3 : ∀ w, (callFunc 40 #[.int .u64 fl, .int .u64 fh, .int .u64 0]).run Tryd.prog w = .ok (.value (.tuple #[.int .u64 (aLo fl fh 0), .int .u64 (aCy fl fh 0)])) w := fun w => add64_run _ _ _ f0 h0 (by omega) (by omega) w
  have C1 := Lib.hid c1
  have C2 := Lib.hid c2
  clear c1 c2 e1 e2
  by_cases hov : a.n * k < 340282366920938463463374607431768211456
  · have z0 : ov = 0 := by generalize a.n * k = z at *; omega
    subst z0
    have z1 : (aCy fl fh 0 != 0) = false := by
      have : aCy fl fh 0 = 0 := by unfold aCy; generalize a.n * k = z at *; omega
      rw [this]; rfl
    have hr : hiZ (timesU a k) = aLo fl fh 0 ∧ loZ (timesU a k) = l := by
      refine halves_of ?_ l0 l1
      unfold timesU; rw [cutU_n hov]; unfold aLo; generalize a.n * k = z at *; omega
    have HR := Lib.hid hr
    clear hr hv
    go_enter Tryd.func11, Tryd.ntmps11
    go_wp2_with fail
    refine (C1.out _).mono ?_
    rintro e w' ⟨rfl, rfl⟩
    go_wp2_with fail
    refine (C2.out _).mono ?_
    rintro e w' ⟨rfl, rfl⟩
    go_wp2_with fail
    go_returns
    exact ⟨we_eq HR.out.1.symm HR.out.2.symm (cutE_lt hov).symm, by go_grown⟩
  · by_cases z0 : ov = 0
    · subst z0
      have z1 : (aCy fl fh 0 != 0) = true := by
        have : aCy fl fh 0 ≠ 0 := by unfold aCy; generalize a.n * k = z at *; omega
        simpa using this
      clear hv
      go_enter Tryd.func11, Tryd.ntmps11
      go_wp2_with fail
      refine (C1.out _).mono ?_
      rintro e w' ⟨rfl, rfl⟩
      go_wp2_with fail
      refine (C2.out _).mono ?_
      rintro e w' ⟨rfl, rfl⟩
      go_wp2_with fail
      go_returns
      exact ⟨we_eq (by unfold timesU; rw [cutU_ge (by omega)]; rfl) (by unfold timesU; rw [cutU_ge (by omega)]; rfl) (cutE_ge (by omega)).symm, by go_grown⟩
    · have z1 : (ov != 0) = true := by simpa using z0
      clear hv z0
      go_enter Tryd.func11, Tryd.ntmps11
      go_wp2_with fail
      refine (C1.out _).mono ?_
      rintro e w' ⟨rfl, rfl⟩
      go_wp2_with fail
      refine (C2.out _).mono ?_
      rintro e w' ⟨rfl, rfl⟩
      go_wp2_with fail
      go_returns
      exact ⟨we_eq (by unfold timesU; rw [cutU_ge (by omega)]; rfl) (by unfold timesU; rw [cutU_ge (by omega)]; rfl) (cutE_ge (by omega)).symm, by go_grown⟩

theorem we4_eq {h l h' l' r r' e e' : Int} (e1 : h = h') (e2 : l = l') (e4 : r = r') (e3 : e = e') :
    Ending.returned (.tuple #[.agg #[.int .u64 h, .int .u64 l], .int .u64 r, .int .i64 e]) = Ending.returned (.tuple #[.agg #[.int .u64 h', .int .u64 l'], .int .u64 r', .int .i64 e']) := by rw [e1, e2, e4, e3]

/-- The school division by one digit of 64 bits. -/
theorem div_parts_aux (H l k : Nat) (hk0 : 0 < k) (hl : l < 18446744073709551616) :
    (H * 18446744073709551616 + l) / k = H / k * 18446744073709551616 + (H % k * 18446744073709551616 + l) / k ∧
    (H * 18446744073709551616 + l) % k = (H % k * 18446744073709551616 + l) % k ∧ (H % k * 18446744073709551616 + l) / k < 18446744073709551616 := by
  have hlt : H % k < k := Nat.mod_lt _ hk0
  have h0 : H / k * k + H % k = H := Nat.div_add_mod' H k
  have key : H * 18446744073709551616 + l = (H % k * 18446744073709551616 + l) + k * (H / k * 18446744073709551616) := by
    have e : k * (H / k * 18446744073709551616) = H / k * k * 18446744073709551616 := by
      rw [Nat.mul_comm, Nat.mul_right_comm]
    rw [e]
    conv => lhs; rw [← h0]
    rw [Nat.add_mul]
    omega
  rw [key, Nat.add_mul_div_left _ _ hk0, Nat.add_mul_mod_self_left]
  refine ⟨Nat.add_comm _ _, rfl, Nat.div_lt_of_lt_mul ?_⟩
  have : (H % k + 1) * 18446744073709551616 ≤ k * 18446744073709551616 := Nat.mul_le_mul_right _ hlt
  omega
theorem halves_nat {a : U} {h l : Nat} (e : a.n = h * 18446744073709551616 + l) (hl : l < 18446744073709551616) : hiZ a = (h : Int) ∧ loZ a = (l : Int) := by
  unfold hiZ loZ; omega
theorem div_parts (a : U) (k : Nat) (hk0 : 0 < k) :
    hiZ (divU a k) = ((a.n / 18446744073709551616 / k : Nat) : Int) ∧
    loZ (divU a k) = (((a.n / 18446744073709551616 % k * 18446744073709551616 + a.n % 18446744073709551616) / k : Nat) : Int) ∧
    a.n % k = (a.n / 18446744073709551616 % k * 18446744073709551616 + a.n % 18446744073709551616) % k ∧
    a.n / 18446744073709551616 % k < k := by
  obtain ⟨h1, h2, h3⟩ := div_parts_aux (a.n / 18446744073709551616) (a.n % 18446744073709551616) k hk0 (Nat.mod_lt _ (by decide))
  rw [← val_nat a] at h1 h2
  obtain ⟨g1, g2⟩ := halves_nat (a := divU a k) h1 h3
  exact ⟨g1, g2, h2, Nat.mod_lt _ hk0⟩

set_option maxHeartbeats 400000 in
theorem wdiv_any (a : U) (k : Nat) (hk0 : 0 < k) (hk : k < 18446744073709551616) (w : World) :
    Calls Tryd.prog 13 #[.agg #[.int .u64 (hiZ a), .int .u64 (loZ a)], .int .u64 k] w fun e w' =>
      e = .returned (.tuple #[.agg #[.int .u64 (hiZ (divU a k)), .int .u64 (loZ (divU a k))], .int .u64 (remZ a k), .int .i64 0]) ∧ Below w.heap.size w w' := by
  have t1 : ((k : Int) == 0) = false := by simp; omega
  have t1' : (k : Int) ≠ 0 := by omega
  have y1 : 1 ≤ (k : Int) := by omega
  have y2 : (k : Int) ≤ 18446744073709551615 := by omega
  have a1 := hiZ_nonneg a; have a2 := hiZ_le a; have a3 := loZ_nonneg a; have a4 := loZ_le a
  obtain ⟨hh, hl, hm, hlt⟩ := div_parts a k hk0
  have c : ∀ w, Calls Tryd.prog 45 #[.int .u64 (hiZ a % (k : Int)), .int .u64 (loZ a), .int .u64 k] w fun e w' => e = .returned (.tuple #[.int .u64 (loZ (divU a k)), .int .u64 (remZ a k)]) ∧ ∃ n, w' = w.drewN n := by
    intro w
    have e : hiZ a % (k : Int) = ((a.n / 18446744073709551616 % k : Nat) : Int) := by unfold hiZ; simp
    rw [e, hl, show remZ a k = ((a.n % k : Nat) : Int) from rfl, hm]
    exact div64_any _ _ k hlt hk (Nat.mod_lt _ (by decide)) w
  have e1 : hiZ (divU a k) = hiZ a / (k : Int) := by rw [hh]; unfold hiZ; simp
  have C := Lib.hid c
  have E1 := Lib.hid e1
  clear hh hl hm c e1
  have q0 : 0 ≤ hiZ a % (k : Int) := Int.emod_nonneg _ (by omega)
  have q1 : hiZ a % (k : Int) < k := Int.emod_lt_of_pos _ (by omega)
  go_enter Tryd.func13, Tryd.ntmps13
  go_wp2_with fail
  go_quiet (fail)
  go_wp2_with fail
  refine (C.out _).mono ?_
  rintro e w' ⟨rfl, n, rfl⟩
  go_wp2_with fail
  go_returns
  exact ⟨we4_eq E1.out.symm rfl rfl rfl, by go_grown; refine bdn ?_; go_grown⟩

set_option maxHeartbeats 400000 in
theorem wdiv_zero (a : U) (w : World) :
    Calls Tryd.prog 13 #[.agg #[.int .u64 (hiZ a), .int .u64 (loZ a)], .int .u64 0] w fun e w' =>
      e = .returned (.tuple #[.agg #[.int .u64 0, .int .u64 0], .int .u64 0, .int .i64 1]) ∧ Below w.heap.size w w' := by
  go_enter Tryd.func13, Tryd.ntmps13
  go_wp2_with fail
  go_returns
  exact ⟨rfl, by go_grown⟩
end Go.Proofs.YtnbchhjanlpdlaaDoor
