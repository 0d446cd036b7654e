/-
  PLAIN MATHEMATICS of ratio: the school division of numbers of 128 bits, bit by bit; the greatest divisor.
-/
import Derived.Test.YtnbchhjanlpdlaaDoorMath
import Derived.Laws.Bits64b
namespace Go.Proofs.YtnbchhjanlpdlaaDoor
open Go

/-- What is left of a, so often b. -/
def modW (a b : U) : U := ⟨a.n % b.n, Nat.lt_of_le_of_lt (Nat.mod_le _ _) a.lt⟩
def divW (a b : U) : U := divU a b.n

/-- What holds at a round's head: A is left, o is how often b went in; s1: one more than the shift. -/
structure DivInv (a b A : U) (o s1 : Nat) : Prop where
  eq : A.n + b.n * o = a.n
  lt : A.n < b.n * 2 ^ s1
  mul : ∃ q, o = q * 2 ^ s1
theorem DivInv.take {a b A A' : U} {o s : Nat} (h : DivInv a b A o (s + 1)) (hp : b.n * 2 ^ s ≤ A.n) (hA : A'.n = A.n - b.n * 2 ^ s) : DivInv a b A' (o + 2 ^ s) s := by
  obtain ⟨e, l, q, hq⟩ := h
  have e2 : b.n * 2 ^ (s + 1) = b.n * 2 ^ s + b.n * 2 ^ s := by rw [Nat.pow_succ, ← Nat.mul_assoc]; omega
  refine ⟨?_, by omega, 2 * q + 1, ?_⟩
  · rw [Nat.mul_add]; omega
  · rw [hq, Nat.pow_succ, Nat.add_mul, Nat.one_mul, ← Nat.mul_assoc, Nat.mul_right_comm, Nat.mul_comm q 2]
theorem DivInv.skip {a b A : U} {o s : Nat} (h : DivInv a b A o (s + 1)) (hp : A.n < b.n * 2 ^ s) : DivInv a b A o s := by
  obtain ⟨e, l, q, hq⟩ := h
  exact ⟨e, hp, 2 * q, by rw [hq, Nat.pow_succ, ← Nat.mul_assoc, Nat.mul_right_comm, Nat.mul_comm q 2]⟩
theorem DivInv.or {a b A : U} {o s : Nat} (h : DivInv a b A o (s + 1)) : o ||| 2 ^ s = o + 2 ^ s := by
  obtain ⟨_, _, q, hq⟩ := h
  rw [hq]
  exact shl_or q (2 ^ s) (s + 1) (Nat.pow_lt_pow_right (by decide) (by omega))
theorem DivInv.done {a b A : U} {o : Nat} (h : DivInv a b A o 0) : A = modW a b ∧ o = a.n / b.n := by
  obtain ⟨e, l, _⟩ := h
  rw [Nat.pow_zero, Nat.mul_one] at l
  have e' : a.n = A.n + b.n * o := e.symm
  refine ⟨U.ext ?_, ?_⟩
  · show A.n = a.n % b.n
    rw [e', Nat.add_mul_mod_self_left, Nat.mod_eq_of_lt l]
  · rw [e', Nat.add_mul_div_left _ _ (by omega), Nat.div_eq_of_lt l, Nat.zero_add]
theorem DivInv.small {a b A : U} {o s1 : Nat} (h : DivInv a b A o s1) (hb : 18446744073709551616 ≤ b.n) : o < 18446744073709551616 := by
  have h1 := h.eq
  have h2 := a.lt
  rcases Nat.lt_or_ge o 18446744073709551616 with g | g
  · exact g
  · have : 18446744073709551616 * 18446744073709551616 ≤ b.n * o := Nat.mul_le_mul hb g
    omega
/-- The first shift: a's length less b's. -/
theorem shift_start {a b : U} {la lb : Nat} (ha : a.n / 18446744073709551616 < 2 ^ la) (hla : la ≤ 64) (hb : 2 ^ (lb - 1) ≤ b.n / 18446744073709551616) (hb1 : 1 ≤ lb) (hb' : b.n / 18446744073709551616 < 2 ^ lb) :
    (lb ≤ la → DivInv a b a 0 (la - lb + 1) ∧ ∀ s, s ≤ la - lb → b.n * 2 ^ s < 340282366920938463463374607431768211456) ∧ (la < lb → DivInv a b a 0 0) := by
  have hM : (18446744073709551616 : Nat) = 2 ^ 64 := by decide
  have a1 : a.n < 2 ^ (64 + la) := by
    have : a.n < 2 ^ 64 * 2 ^ la := by rw [← hM]; omega
    rwa [← Nat.pow_add] at this
  have b1 : 2 ^ (64 + (lb - 1)) ≤ b.n := by
    have : 2 ^ 64 * 2 ^ (lb - 1) ≤ b.n := by rw [← hM]; omega
    rwa [← Nat.pow_add] at this
  have b2 : b.n < 2 ^ (64 + lb) := by
    have : b.n < 2 ^ 64 * 2 ^ lb := by rw [← hM]; omega
    rwa [← Nat.pow_add] at this
  refine ⟨fun h => ⟨⟨by simp, ?_, 0, by simp⟩, fun s hs => ?_⟩, fun h => ⟨by simp, ?_, 0, by simp⟩⟩
  · have h1 : 2 ^ (64 + (lb - 1)) * 2 ^ (la - lb + 1) ≤ b.n * 2 ^ (la - lb + 1) := Nat.mul_le_mul_right _ b1
    rw [← Nat.pow_add, show 64 + (lb - 1) + (la - lb + 1) = 64 + la by omega] at h1
    omega
  · have h1 : b.n * 2 ^ s < 2 ^ (64 + lb) * 2 ^ s := Nat.mul_lt_mul_of_pos_right b2 (Nat.pow_pos (by decide))
    rw [← Nat.pow_add] at h1
    have h2 : 2 ^ (64 + lb + s) ≤ 2 ^ 128 := Nat.pow_le_pow_right (by decide) (by omega)
    have h3 : (2 : Nat) ^ 128 = 340282366920938463463374607431768211456 := by decide
    omega
  · rw [Nat.pow_zero, Nat.mul_one]
    have h1 : 2 ^ (64 + la) ≤ 2 ^ (64 + (lb - 1)) := Nat.pow_le_pow_right (by decide) (by omega)
    omega

def gcdW (a b : U) : U := ⟨Nat.gcd a.n b.n, by
  rcases Nat.eq_zero_or_pos a.n with h | h
  · rw [h, Nat.gcd_zero_left]; exact b.lt
  · exact Nat.lt_of_le_of_lt (Nat.gcd_le_left _ h) a.lt⟩
theorem gcdW_zero (a b : U) (h : b.n = 0) : gcdW a b = a := U.ext (by show Nat.gcd a.n b.n = a.n; rw [h, Nat.gcd_zero_right])
theorem gcdW_step (a b : U) : gcdW b (modW a b) = gcdW a b := U.ext (by show Nat.gcd b.n (a.n % b.n) = Nat.gcd a.n b.n; rw [Nat.gcd_comm b.n, ← Nat.gcd_rec, Nat.gcd_comm])
end Go.Proofs.YtnbchhjanlpdlaaDoor
