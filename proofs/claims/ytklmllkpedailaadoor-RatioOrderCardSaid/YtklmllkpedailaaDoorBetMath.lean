/-
  PLAIN MATHEMATICS of the law TopBetween: rates of numbers of 33 bits, which of two is less, and that of both together.
-/
import Derived.Test.YtklmllkpedailaaDoorBegins
namespace Go.Proofs.YtklmllkpedailaaDoor
open Go Go.RowKit

/-- The rate of x in k milliseconds: its parts. -/
def rtN (x k : Nat) : U := rateN (cutU x) k
def rtD (x k : Nat) : U := rateD (cutU x) k
theorem rt_vals {x k : Nat} (hx : x ≤ 8589934590) (hk0 : 0 < k) (hk : k ≤ 8589934590) :
    ∃ g, 0 < g ∧ (rtN x k).n * g = x * 1000 ∧ (rtD x k).n * g = k ∧ redB (rtN x k) (rtD x k) = true := by
  have e1 : (cutU x).n = x := cutU_n (by omega)
  have e2 : (timesU (cutU x) 1000).n = x * 1000 := by unfold timesU; rw [e1]; exact cutU_n (by omega)
  have e3 : (cutU k).n = k := cutU_n (by omega)
  have n1 : (rtN x k).n = x * 1000 / Nat.gcd (x * 1000) k := by
    show (timesU (cutU x) 1000).n / Nat.gcd (timesU (cutU x) 1000).n (cutU k).n = _
    rw [e2, e3]
  have n2 : (rtD x k).n = k / Nat.gcd (x * 1000) k := by
    show (cutU k).n / Nat.gcd (timesU (cutU x) 1000).n (cutU k).n = _
    rw [e2, e3]
  have hg : 0 < Nat.gcd (x * 1000) k := Nat.gcd_pos_of_pos_right _ hk0
  have m2 : (rtD x k).n * Nat.gcd (x * 1000) k = k := by rw [n2]; exact Nat.div_mul_cancel (Nat.gcd_dvd_right _ _)
  refine ⟨Nat.gcd (x * 1000) k, hg, by rw [n1]; exact Nat.div_mul_cancel (Nat.gcd_dvd_left _ _), m2, ?_⟩
  have h1 : (rtD x k).n ≠ 0 := by
    intro h
    rw [h] at m2
    omega
  have h2 : Nat.gcd (rtN x k).n (rtD x k).n = 1 := by rw [n1, n2]; exact Nat.gcd_div_gcd_div_gcd_of_pos_right hk0
  unfold redB
  exact decide_eq_true ⟨h1, h2⟩
theorem le_of_mul {a g b : Nat} (hg : 0 < g) (h : a * g = b) : a ≤ b := by
  rw [← h]
  exact Nat.le_mul_of_pos_right a hg
theorem rt_small {x k : Nat} (hx : x ≤ 8589934590) (hk0 : 0 < k) (hk : k ≤ 8589934590) : (rtN x k).n ≤ 8589934590000 ∧ (rtD x k).n ≤ 8589934590 := by
  obtain ⟨g, hg, h1, h2, _⟩ := rt_vals hx hk0 hk
  have := le_of_mul hg h1
  have := le_of_mul hg h2
  omega
theorem cross {N1 D1 N2 D2 g1 g2 n1 d1 n2 d2 : Nat} (hg1 : 0 < g1) (hg2 : 0 < g2) (h1 : N1 * g1 = n1) (h2 : D1 * g1 = d1) (h3 : N2 * g2 = n2) (h4 : D2 * g2 = d2) : N1 * D2 < N2 * D1 ↔ n1 * d2 < n2 * d1 := by
  subst h1 h2 h3 h4
  rw [show N1 * g1 * (D2 * g2) = N1 * D2 * (g1 * g2) by simp [Nat.mul_assoc, Nat.mul_left_comm], show N2 * g2 * (D1 * g1) = N2 * D1 * (g1 * g2) by simp [Nat.mul_assoc, Nat.mul_left_comm, Nat.mul_comm]]
  exact (Nat.mul_lt_mul_right (Nat.mul_pos hg1 hg2)).symm
theorem rt_less {x k y l : Nat} (hx : x ≤ 8589934590) (hk0 : 0 < k) (hk : k ≤ 8589934590) (hy : y ≤ 8589934590) (hl0 : 0 < l) (hl : l ≤ 8589934590) :
    lessFE (rtN x k) (rtD x k) (rtN y l) (rtD y l) = 0 ∧ lessFB (rtN x k) (rtD x k) (rtN y l) (rtD y l) = decide (x * 1000 * l < y * 1000 * k) := by
  obtain ⟨g1, p1, a1, b1, r1⟩ := rt_vals hx hk0 hk
  obtain ⟨g2, p2, a2, b2, r2⟩ := rt_vals hy hl0 hl
  have s1 := rt_small hx hk0 hk
  have s2 := rt_small hy hl0 hl
  have m1 := Nat.mul_le_mul s1.1 s2.2
  have m2 := Nat.mul_le_mul s2.1 s1.2
  have e : lessFE (rtN x k) (rtD x k) (rtN y l) (rtD y l) = 0 := by
    unfold lessFE
    rw [if_pos ⟨r1, r2⟩, if_pos ⟨by omega, by omega⟩]
  refine ⟨e, ?_⟩
  unfold lessFB
  rw [e]
  have := cross p1 p2 a1 b1 a2 b2
  simp only [true_and]
  exact decide_eq_decide.2 this
theorem rt_floor {x k : Nat} (hx : x ≤ 8589934590) (hk0 : 0 < k) (hk : k ≤ 8589934590) : (rtN x k).n / (rtD x k).n = x * 1000 / k ∧ (rtD x k).n ≠ 0 := by
  obtain ⟨g, hg, h1, h2, _⟩ := rt_vals hx hk0 hk
  refine ⟨?_, fun h => by rw [h] at h2; omega⟩
  have := Nat.mul_div_mul_right (rtN x k).n (rtD x k).n hg
  rw [h1, h2] at this
  exact this.symm
/-- Of two rates, that of both together is between them. -/
theorem between {A B C D : Nat} (h : A * D ≤ C * B) : ¬ ((A + C) * B < A * (B + D)) ∧ ¬ (C * (B + D) < (A + C) * D) := by
  simp only [Nat.add_mul, Nat.mul_add]
  omega
end Go.Proofs.YtklmllkpedailaaDoor
