/-
  WALKS: wide.Times: what it answers, of any number and any other one of 64 bits (XWdiv has it, too, beside wide.Div).
-/
import Derived.Test.YtkoiogfhbipmjaaAdd
import Derived.Test.YtkoiogfhbipmjaaShelf
namespace Go.Proofs.Ytkoiogfhbipmjaa
open Go Go.RowKit

theorem val_nat (a : U) : a.n = a.n / 18446744073709551616 * 18446744073709551616 + a.n % 18446744073709551616 := by omega
theorem hi_nat (a : U) : a.n / 18446744073709551616 < 18446744073709551616 := by have := a.lt; omega

theorem mul_any (x y : Int) (hx : 0 ≤ x) (hx' : x ≤ 18446744073709551615) (hy : 0 ≤ y) (hy' : y ≤ 18446744073709551615) : ∃ h l : Int, x * y = h * 18446744073709551616 + l ∧ 0 ≤ h ∧ h ≤ 18446744073709551615 ∧ 0 ≤ l ∧ l ≤ 18446744073709551615 ∧
    ∀ w, Calls Try.prog 24 #[.int .u64 x, .int .u64 y] w fun e w' => e = .returned (.tuple #[.int .u64 h, .int .u64 l]) ∧ w = w' := by
  obtain ⟨x, rfl⟩ := Int.eq_ofNat_of_zero_le hx
  obtain ⟨y, rfl⟩ := Int.eq_ofNat_of_zero_le hy
  have hm : x * y ≤ 18446744073709551615 * 18446744073709551615 := Nat.mul_le_mul (by omega) (by omega)
  refine ⟨((x * y / 18446744073709551616 : Nat) : Int), ((x * y % 18446744073709551616 : Nat) : Int), ?_, by omega, ?_, by omega, by omega, fun w => ?_⟩
  · rw [show (x : Int) * (y : Int) = ((x * y : Nat) : Int) by simp]
    generalize x * y = z at *
    omega
  · generalize x * y = z at *
    omega
  · refine (Try.bits_Mul64 x y (by omega) (by omega) w).mono ?_
    rintro e w' ⟨rfl, rfl⟩
    exact ⟨rfl, rfl⟩

theorem times_val (a : U) (k : Nat) : ((a.n * k : Nat) : Int) = hiZ a * (k : Int) * 18446744073709551616 + loZ a * (k : Int) := by
  rw [Int.natCast_mul, a.val, Int.add_mul, Int.mul_right_comm]

set_option maxHeartbeats 400000 in
theorem times_any (a : U) (k : Nat) (hk : k < 18446744073709551616) (w : World) :
    Calls Try.prog 19 #[.agg #[.int .u64 (hiZ a), .int .u64 (loZ a)], .int .u64 k] w fun e w' =>
      e = .returned (.tuple #[.agg #[.int .u64 (hiZ (timesU a k)), .int .u64 (loZ (timesU a k))], .int .i64 (timesE a k)]) ∧ Below w.heap.size w w' := by
  have hv := times_val a k
  obtain ⟨fl, l, e1, f0, f1, l0, l1, c1⟩ := mul_any (loZ a) k (loZ_nonneg a) (loZ_le a) (by omega) (by omega)
  obtain ⟨ov, fh, e2, o0, o1, h0, h1, c2⟩ := mul_any (hiZ a) k (hiZ_nonneg a) (hiZ_le a) (by omega) (by omega)
  rw [e1, e2] at hv
  have e3 : ∀ w, (callFunc 22 #[.int .u64 fl, .int .u64 fh, .int .u64 0]).run Try.prog w = .ok (.value (.tuple #[.int .u64 (aLo fl fh 0), .int .u64 (aCy fl fh 0)])) w := fun w => add64_run _ _ _ f0 h0 (by omega) (by omega) w
  have C1 := Lib.hid c1
  have C2 := Lib.hid c2
  clear c1 c2 e1 e2
  by_cases hov : a.n * k < 340282366920938463463374607431768211456
  · have z0 : ov = 0 := by generalize a.n * k = z at *; omega
    subst z0
    have z1 : (aCy fl fh 0 != 0) = false := by
      have : aCy fl fh 0 = 0 := by unfold aCy; generalize a.n * k = z at *; omega
      rw [this]; rfl
    have hr : hiZ (timesU a k) = aLo fl fh 0 ∧ loZ (timesU a k) = l := by
      refine halves_of ?_ l0 l1
      unfold timesU; rw [cutU_n hov]; unfold aLo; generalize a.n * k = z at *; omega
    have HR := Lib.hid hr
    clear hr hv
    go_enter Try.func19, Try.ntmps19
    go_wp2_with fail
    refine (C1.out _).mono ?_
    rintro e w' ⟨rfl, rfl⟩
    go_wp2_with fail
    refine (C2.out _).mono ?_
    rintro e w' ⟨rfl, rfl⟩
    go_wp2_with fail
    go_returns
    exact ⟨we_eq HR.out.1.symm HR.out.2.symm (cutE_lt hov).symm, by go_grown⟩
  · by_cases z0 : ov = 0
    · subst z0
      have z1 : (aCy fl fh 0 != 0) = true := by
        have : aCy fl fh 0 ≠ 0 := by unfold aCy; generalize a.n * k = z at *; omega
        simpa using this
      clear hv
      go_enter Try.func19, Try.ntmps19
      go_wp2_with fail
      refine (C1.out _).mono ?_
      rintro e w' ⟨rfl, rfl⟩
      go_wp2_with fail
      refine (C2.out _).mono ?_
      rintro e w' ⟨rfl, rfl⟩
      go_wp2_with fail
      go_returns
      exact ⟨we_eq (by unfold timesU; rw [cutU_ge (by omega)]; rfl) (by unfold timesU; rw [cutU_ge (by omega)]; rfl) (cutE_ge (by omega)).symm, by go_grown⟩
    · have z1 : (ov != 0) = true := by simpa using z0
      clear hv z0
      go_enter Try.func19, Try.ntmps19
      go_wp2_with fail
      refine (C1.out _).mono ?_
      rintro e w' ⟨rfl, rfl⟩
      go_wp2_with fail
      refine (C2.out _).mono ?_
      rintro e w' ⟨rfl, rfl⟩
      go_wp2_with fail
      go_returns
      exact ⟨we_eq (by unfold timesU; rw [cutU_ge (by omega)]; rfl) (by unfold timesU; rw [cutU_ge (by omega)]; rfl) (cutE_ge (by omega)).symm, by go_grown⟩
end Go.Proofs.Ytkoiogfhbipmjaa
