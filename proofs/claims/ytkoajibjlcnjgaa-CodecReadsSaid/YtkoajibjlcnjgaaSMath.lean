/-
  PLAIN MATHEMATICS, no run of a program: the check sum of bytes by halvings; other bytes, at most four that follow one another, have another sum.
-/
import Derived.WalkKit
import Derived.Lib.AppendStr
namespace Go.Proofs.Ytkoajibjlcnjgaa
open Go

/-! ### The check sum. -/
def halve (x : Nat) : Nat := if x % 2 = 1 then x / 2 ^^^ 2197175160 else x / 2
def h8 (x : Nat) : Nat := halve (halve (halve (halve (halve (halve (halve (halve x)))))))
def sumStep (r b : Nat) : Nat := r / 256 ^^^ h8 ((r % 256) ^^^ b)
def sumOf (r : Nat) (l : List UInt8) : Nat := l.foldl (fun r b => sumStep r b.toNat) r
def sumN (l : List UInt8) : Nat := sumOf 4294967295 l ^^^ 4294967295

theorem xor_half (x y : Nat) : (x ^^^ y) / 2 = x / 2 ^^^ y / 2 := by
  have := Nat.shiftRight_xor_distrib (a := x) (b := y) (i := 1)
  simpa [Nat.shiftRight_succ] using this
theorem xor_odd (x y : Nat) : (x ^^^ y) % 2 = (x + y) % 2 := by
  have h := Nat.xor_mod_two_pow (a := x) (b := y) (n := 1)
  rw [Nat.pow_one] at h
  rw [h]
  rcases Nat.mod_two_eq_zero_or_one x with a | a <;> rcases Nat.mod_two_eq_zero_or_one y with b | b <;> rw [a, b] <;> simp <;> omega
theorem xor_zero_eq {x y : Nat} (h : x ^^^ y = 0) : x = y := by
  have : x ^^^ y ^^^ y = y := by rw [h, Nat.zero_xor]
  rwa [Nat.xor_assoc, Nat.xor_self, Nat.xor_zero] at this
theorem halve_lt {x : Nat} (h : x < 4294967296) : halve x < 4294967296 := by
  unfold halve
  split
  · exact Nat.xor_lt_two_pow (n := 32) (by omega) (by omega)
  · omega
theorem h8_lt {x : Nat} (h : x < 4294967296) : h8 x < 4294967296 := by
  unfold h8
  exact halve_lt (halve_lt (halve_lt (halve_lt (halve_lt (halve_lt (halve_lt (halve_lt h)))))))
theorem halve_xor (x y : Nat) : halve (x ^^^ y) = halve x ^^^ halve y := by
  unfold halve
  rw [xor_odd, xor_half]
  by_cases hx : x % 2 = 1 <;> by_cases hy : y % 2 = 1
  · rw [if_neg (by omega), if_pos hx, if_pos hy]
    rw [Nat.xor_assoc (x / 2) _ (y / 2 ^^^ _), ← Nat.xor_assoc _ (y / 2) _, Nat.xor_comm 2197175160 (y / 2), Nat.xor_assoc (y / 2), Nat.xor_self, Nat.xor_zero]
  · rw [if_pos (by omega), if_pos hx, if_neg hy, Nat.xor_assoc, Nat.xor_comm (y / 2), ← Nat.xor_assoc]
  · rw [if_pos (by omega), if_neg hx, if_pos hy, Nat.xor_assoc]
  · rw [if_neg (by omega), if_neg hx, if_neg hy]
theorem h8_xor (x y : Nat) : h8 (x ^^^ y) = h8 x ^^^ h8 y := by unfold h8; simp only [halve_xor]
theorem halve_zero {x : Nat} (h : x < 4294967296) (e : halve x = 0) : x = 0 := by
  unfold halve at e
  split at e
  · have := xor_zero_eq e
    omega
  · omega
theorem h8_zero {x : Nat} (h : x < 4294967296) (e : h8 x = 0) : x = 0 := by
  unfold h8 at e
  have a1 := halve_lt h
  have a2 := halve_lt a1
  have a3 := halve_lt a2
  have a4 := halve_lt a3
  have a5 := halve_lt a4
  have a6 := halve_lt a5
  have a7 := halve_lt a6
  exact halve_zero h (halve_zero a1 (halve_zero a2 (halve_zero a3 (halve_zero a4 (halve_zero a5 (halve_zero a6 (halve_zero a7 e)))))))
theorem xor_lt32 {x y : Nat} (h : x < 4294967296) (h' : y < 4294967296) : x ^^^ y < 4294967296 := Nat.xor_lt_two_pow (n := 32) h h'
theorem h8_inj {x y : Nat} (h : x < 4294967296) (h' : y < 4294967296) (e : h8 x = h8 y) : x = y := by
  have e1 : h8 (x ^^^ y) = 0 := by rw [h8_xor, e, Nat.xor_self]
  exact xor_zero_eq (h8_zero (xor_lt32 h h') e1)
theorem halve_two (x : Nat) : halve (2 * x) = x := by unfold halve; rw [if_neg (by omega)]; omega
theorem h8_up (x : Nat) : h8 (x * 256) = x := by
  unfold h8
  rw [show x * 256 = 2 * (2 * (2 * (2 * (2 * (2 * (2 * (2 * x))))))) by omega]
  simp only [halve_two]
theorem split256 (x : Nat) : x = x / 256 * 256 ^^^ x % 256 := by
  refine Nat.eq_of_testBit_eq fun i => ?_
  rw [Nat.testBit_xor, show (256 : Nat) = 2 ^ 8 by rfl, Nat.testBit_mul_two_pow, Nat.testBit_mod_two_pow, Nat.testBit_div_two_pow]
  by_cases h : i < 8
  · simp [h, show ¬ 8 ≤ i by omega]
  · simp [h, show 8 ≤ i by omega]
theorem h8_split (x : Nat) : h8 x = x / 256 ^^^ h8 (x % 256) := by
  conv => lhs; rw [split256 x]
  rw [h8_xor, h8_up]
theorem join256 {x b : Nat} (hb : b < 256) : x * 256 + b = x * 256 ^^^ b := by
  have h := split256 (x * 256 + b)
  rw [show (x * 256 + b) / 256 = x by omega, show (x * 256 + b) % 256 = b by omega] at h
  exact h
/-- A step is eight halvings of both together. -/
theorem xor_div256 (x y : Nat) : (x ^^^ y) / 256 = x / 256 ^^^ y / 256 := by
  have := Nat.shiftRight_xor_distrib (a := x) (b := y) (i := 8)
  simpa [Nat.shiftRight_eq_div_pow] using this
theorem xor_mod256 (x y : Nat) : (x ^^^ y) % 256 = x % 256 ^^^ y % 256 := by
  have := Nat.xor_mod_two_pow (a := x) (b := y) (n := 8)
  simpa using this
theorem sumStep_eq (r : Nat) {b : Nat} (hb : b < 256) : sumStep r b = h8 (r ^^^ b) := by
  unfold sumStep
  rw [h8_split (r ^^^ b), xor_div256, xor_mod256, Nat.mod_eq_of_lt hb, Nat.div_eq_of_lt hb, Nat.xor_zero]
theorem sumStep_lt {r b : Nat} (hr : r < 4294967296) (hb : b < 256) : sumStep r b < 4294967296 := by
  rw [sumStep_eq r hb]
  exact h8_lt (xor_lt32 hr (by omega))
theorem sumOf_lt (l : List UInt8) : ∀ {r : Nat}, r < 4294967296 → sumOf r l < 4294967296 := by
  induction l with
  | nil => intro r h; exact h
  | cons b t ih => intro r h; exact ih (sumStep_lt h b.toNat_lt)
theorem sumN_lt (l : List UInt8) : sumN l < 4294967296 := xor_lt32 (sumOf_lt l (by omega)) (by omega)
theorem sumOf_append (r : Nat) (l m : List UInt8) : sumOf r (l ++ m) = sumOf (sumOf r l) m := by unfold sumOf; rw [List.foldl_append]
theorem xor_inj {x y z : Nat} (h : x ^^^ z = y ^^^ z) : x = y := by
  have : x ^^^ z ^^^ z = y ^^^ z ^^^ z := by rw [h]
  rwa [Nat.xor_assoc, Nat.xor_assoc, Nat.xor_self, Nat.xor_zero, Nat.xor_zero] at this
theorem sumStep_inj {r q b : Nat} (hr : r < 4294967296) (hq : q < 4294967296) (hb : b < 256) (e : sumStep r b = sumStep q b) : r = q := by
  rw [sumStep_eq r hb, sumStep_eq q hb] at e
  exact xor_inj (h8_inj (xor_lt32 hr (by omega)) (xor_lt32 hq (by omega)) e)
theorem sumOf_inj (l : List UInt8) : ∀ {r q : Nat}, r < 4294967296 → q < 4294967296 → sumOf r l = sumOf q l → r = q := by
  induction l with
  | nil => intro r q _ _ e; exact e
  | cons b t ih => intro r q hr hq e; exact sumStep_inj hr hq b.toNat_lt (ih (sumStep_lt hr b.toNat_lt) (sumStep_lt hq b.toNat_lt) e)
/-- Four bytes turned, and the rest left alone. -/
theorem four_turned {d0 d1 d2 d3 : Nat} (h0 : d0 < 256) (h1 : d1 < 256) (h2 : d2 < 256) (h3 : d3 < 256)
    (e : h8 (h8 (h8 (h8 d0 ^^^ d1) ^^^ d2) ^^^ d3) = 0) : d0 = 0 ∧ d1 = 0 ∧ d2 = 0 ∧ d3 = 0 := by
  have l0 : h8 d0 < 4294967296 := h8_lt (by omega)
  have l1 : h8 (h8 d0 ^^^ d1) < 4294967296 := h8_lt (xor_lt32 l0 (by omega))
  have l2 : h8 (h8 (h8 d0 ^^^ d1) ^^^ d2) < 4294967296 := h8_lt (xor_lt32 l1 (by omega))
  have e3 := xor_zero_eq (h8_zero (xor_lt32 l2 (by omega)) e)
  rw [← h8_up d3] at e3
  have e2 := h8_inj (xor_lt32 l1 (by omega)) (by omega) e3
  have f2 : h8 (h8 d0 ^^^ d1) = d3 * 256 + d2 := by
    have : h8 (h8 d0 ^^^ d1) ^^^ d2 ^^^ d2 = d3 * 256 ^^^ d2 := by rw [e2]
    rw [Nat.xor_assoc, Nat.xor_self, Nat.xor_zero] at this
    rw [this, join256 h2]
  rw [← h8_up (d3 * 256 + d2)] at f2
  have e1 := h8_inj (xor_lt32 l0 (by omega)) (by omega) f2
  have f1 : h8 d0 = (d3 * 256 + d2) * 256 + d1 := by
    have : h8 d0 ^^^ d1 ^^^ d1 = (d3 * 256 + d2) * 256 ^^^ d1 := by rw [e1]
    rw [Nat.xor_assoc, Nat.xor_self, Nat.xor_zero] at this
    rw [this, join256 h1]
  rw [← h8_up ((d3 * 256 + d2) * 256 + d1)] at f1
  have e0 := h8_inj (by omega) (by omega) f1
  omega
theorem xor_swap (a b c d : Nat) : (a ^^^ b) ^^^ (c ^^^ d) = (a ^^^ c) ^^^ (b ^^^ d) := by
  rw [Nat.xor_assoc, Nat.xor_assoc, ← Nat.xor_assoc b c d, Nat.xor_comm b c, Nat.xor_assoc c b d]
theorem step_diff {r q b c : Nat} (hb : b < 256) (hc : c < 256) : sumStep r b ^^^ sumStep q c = h8 ((r ^^^ q) ^^^ (b ^^^ c)) := by
  rw [sumStep_eq r hb, sumStep_eq q hc, ← h8_xor, xor_swap]
theorem sum_found (p t : List UInt8) (a0 a1 a2 a3 b0 b1 b2 b3 : UInt8)
    (e : sumN (p ++ (a0 :: a1 :: a2 :: a3 :: t)) = sumN (p ++ (b0 :: b1 :: b2 :: b3 :: t))) : a0 = b0 ∧ a1 = b1 ∧ a2 = b2 ∧ a3 = b3 := by
  unfold sumN at e
  have e := xor_inj e
  rw [sumOf_append, sumOf_append] at e
  have hr : sumOf 4294967295 p < 4294967296 := sumOf_lt p (by omega)
  generalize sumOf 4294967295 p = r at *
  have e4 := sumOf_inj t (sumStep_lt (sumStep_lt (sumStep_lt (sumStep_lt hr a0.toNat_lt) a1.toNat_lt) a2.toNat_lt) a3.toNat_lt)
    (sumStep_lt (sumStep_lt (sumStep_lt (sumStep_lt hr b0.toNat_lt) b1.toNat_lt) b2.toNat_lt) b3.toNat_lt) e
  have e5 : sumStep (sumStep (sumStep (sumStep r a0.toNat) a1.toNat) a2.toNat) a3.toNat ^^^ sumStep (sumStep (sumStep (sumStep r b0.toNat) b1.toNat) b2.toNat) b3.toNat = 0 := by rw [e4, Nat.xor_self]
  rw [step_diff a3.toNat_lt b3.toNat_lt, step_diff a2.toNat_lt b2.toNat_lt, step_diff a1.toNat_lt b1.toNat_lt, step_diff a0.toNat_lt b0.toNat_lt, Nat.xor_self, Nat.zero_xor] at e5
  have x8 : ∀ a b : UInt8, a.toNat ^^^ b.toNat < 256 := fun a b => Nat.xor_lt_two_pow (n := 8) a.toNat_lt b.toNat_lt
  obtain ⟨z0, z1, z2, z3⟩ := four_turned (x8 _ _) (x8 _ _) (x8 _ _) (x8 _ _) e5
  exact ⟨UInt8.toNat_inj.1 (xor_zero_eq z0), UInt8.toNat_inj.1 (xor_zero_eq z1), UInt8.toNat_inj.1 (xor_zero_eq z2), UInt8.toNat_inj.1 (xor_zero_eq z3)⟩
/-- One byte turned. -/
theorem sum_found1 (p t : List UInt8) (a b : UInt8) (e : sumN (p ++ (a :: t)) = sumN (p ++ (b :: t))) : a = b := by
  unfold sumN at e
  have e := xor_inj e
  rw [sumOf_append, sumOf_append] at e
  have hr : sumOf 4294967295 p < 4294967296 := sumOf_lt p (by omega)
  generalize sumOf 4294967295 p = r at *
  have e4 := sumOf_inj t (sumStep_lt hr a.toNat_lt) (sumStep_lt hr b.toNat_lt) e
  have e5 : sumStep r a.toNat ^^^ sumStep r b.toNat = 0 := by rw [e4, Nat.xor_self]
  rw [step_diff a.toNat_lt b.toNat_lt, Nat.xor_self, Nat.zero_xor] at e5
  have x8 : a.toNat ^^^ b.toNat < 256 := Nat.xor_lt_two_pow (n := 8) a.toNat_lt b.toNat_lt
  exact UInt8.toNat_inj.1 (xor_zero_eq (h8_zero (by omega) e5))
end Go.Proofs.Ytkoajibjlcnjgaa
