/-
  PLAIN MATHEMATICS, no run of a program: numbers of 128 bits as natural numbers below 2^128 ('U'), their halves, sums, products, quotients, decimal texts; the quotient's digit of the school division (Knuth's bound).
-/
import Derived.WalkKit
import Derived.Lib.ItoaNum
import Derived.Lib.Repeat
namespace Go.Proofs.Ytkoiogfhbipmjaa
open Go

/-- A number below 2^128. -/
structure U where
  n : Nat
  lt : n < 340282366920938463463374607431768211456

theorem U.ext {a b : U} (h : a.n = b.n) : a = b := by
  cases a; cases b; cases h; rfl
theorem U.ext_iff {a b : U} : a = b ↔ a.n = b.n := ⟨fun h => by rw [h], U.ext⟩

def U.zero : U := ⟨0, by omega⟩
def U.small (k : Nat) (h : k < 18446744073709551616) : U := ⟨k, by omega⟩

/-- The halves. -/
def hiZ (a : U) : Int := ((a.n / 18446744073709551616 : Nat) : Int)
def loZ (a : U) : Int := ((a.n % 18446744073709551616 : Nat) : Int)
theorem hiZ_nonneg (a : U) : 0 ≤ hiZ a := by unfold hiZ; omega
theorem loZ_nonneg (a : U) : 0 ≤ loZ a := by unfold loZ; omega
theorem hiZ_le (a : U) : hiZ a ≤ 18446744073709551615 := by have := a.lt; unfold hiZ; omega
theorem loZ_le (a : U) : loZ a ≤ 18446744073709551615 := by unfold loZ; omega

/-- The number of two halves. -/
def mkU (h l : Nat) (hh : h < 18446744073709551616) (hl : l < 18446744073709551616) : U := ⟨h * 18446744073709551616 + l, by omega⟩
theorem hiZ_mk (h l : Nat) (hh hl) : hiZ (mkU h l hh hl) = h := by
  show (((h * 18446744073709551616 + l) / 18446744073709551616 : Nat) : Int) = h
  omega
theorem loZ_mk (h l : Nat) (hh hl) : loZ (mkU h l hh hl) = l := by
  show (((h * 18446744073709551616 + l) % 18446744073709551616 : Nat) : Int) = l
  omega
theorem U.of_halves (h l : Int) (h0 : 0 ≤ h) (h1 : h ≤ 18446744073709551615) (l0 : 0 ≤ l) (l1 : l ≤ 18446744073709551615) : ∃ a : U, h = hiZ a ∧ l = loZ a ∧ (a.n : Int) = h * 18446744073709551616 + l :=
  ⟨mkU h.toNat l.toNat (by omega) (by omega), by rw [hiZ_mk]; omega, by rw [loZ_mk]; omega, by unfold mkU; simp; omega⟩
theorem U.val (a : U) : (a.n : Int) = hiZ a * 18446744073709551616 + loZ a := by unfold hiZ loZ; omega
theorem U.halves_inj {a b : U} (h : hiZ a = hiZ b) (l : loZ a = loZ b) : a = b := U.ext (by have := U.val a; have := U.val b; omega)
theorem halves_of {a : U} {h l : Int} (e : (a.n : Int) = h * 18446744073709551616 + l) (l0 : 0 ≤ l) (l1 : l ≤ 18446744073709551615) : hiZ a = h ∧ loZ a = l := by
  unfold hiZ loZ; omega

/-- A number, if it is one; else 0, and the error ErrRange (1). -/
def cutU (n : Nat) : U := if h : n < 340282366920938463463374607431768211456 then ⟨n, h⟩ else U.zero
def cutE (n : Nat) : Int := if n < 340282366920938463463374607431768211456 then 0 else 1
theorem cutU_n {n : Nat} (h : n < 340282366920938463463374607431768211456) : (cutU n).n = n := by unfold cutU; rw [dif_pos h]
theorem cutU_ge {n : Nat} (h : 340282366920938463463374607431768211456 ≤ n) : cutU n = U.zero := by unfold cutU; rw [dif_neg (by omega)]
theorem cutE_lt {n : Nat} (h : n < 340282366920938463463374607431768211456) : cutE n = 0 := by unfold cutE; rw [if_pos h]
theorem cutE_ge {n : Nat} (h : 340282366920938463463374607431768211456 ≤ n) : cutE n = 1 := by unfold cutE; rw [if_neg (by omega)]

def addU (a b : U) : U := cutU (a.n + b.n)
def addE (a b : U) : Int := cutE (a.n + b.n)
def subU (a b : U) : U := ⟨a.n - b.n, by have := a.lt; omega⟩
def subE (a b : U) : Int := if a.n < b.n then 1 else 0
def lessB (a b : U) : Bool := decide (a.n < b.n)
def timesU (a : U) (k : Nat) : U := cutU (a.n * k)
def timesE (a : U) (k : Nat) : Int := cutE (a.n * k)
def divU (a : U) (k : Nat) : U := ⟨a.n / k, Nat.lt_of_le_of_lt (Nat.div_le_self _ _) a.lt⟩
def remN (a : U) (k : Nat) : Nat := if k = 0 then 0 else a.n % k
def remZ (a : U) (k : Nat) : Int := ((a.n % k : Nat) : Int)
def divE (k : Nat) : Int := if k = 0 then 1 else 0

/-! ### Knuth's bound: the guess of a quotient's digit, lowered while it is too great. -/
section
variable {B yn1 yn0 y u d q1 rh q r : Nat}
theorem kn_mul (hy : y = yn1 * B + yn0) : q1 * y = q1 * yn1 * B + q1 * yn0 := by rw [hy, Nat.mul_add, Nat.mul_assoc]
theorem kn_u (hu : q1 * yn1 + rh = u) : u * B = q1 * yn1 * B + B * rh := by rw [← hu, Nat.add_mul, Nat.mul_comm B rh]
/-- The test says that it is too great: it is. -/
theorem kn_gt (hy : y = yn1 * B + yn0) (hu : q1 * yn1 + rh = u) (hq : q * y + r = u * B + d) (hc : B * rh + d < q1 * yn0) : q < q1 := by
  rcases Nat.lt_or_ge q q1 with h | h
  · exact h
  · have h1 : q1 * y ≤ q * y := Nat.mul_le_mul_right _ h
    have h2 := kn_mul (q1 := q1) hy
    have h3 := kn_u (B := B) hu
    omega
/-- The test says that it is not: it is not. -/
theorem kn_le (hy : y = yn1 * B + yn0) (hu : q1 * yn1 + rh = u) (hq : q * y + r = u * B + d) (hr : r < y) (hc : q1 * yn0 ≤ B * rh + d) : q1 ≤ q := by
  have h2 := kn_mul (q1 := q1) hy
  have h3 := kn_u (B := B) hu
  have h4 : q1 * y < (q + 1) * y := by rw [Nat.succ_mul]; omega
  have := Nat.lt_of_mul_lt_mul_right h4
  omega
end

/-- The guess at a round's head: q, and what is left of u; qt: the digit. -/
structure Kn (yn1 u qt q rh : Nat) : Prop where
  sum : q * yn1 + rh = u
  le : qt ≤ q
  top : q ≤ 4294967297
section
variable {yn1 yn0 y u d q rh : Nat}
theorem Kn.start (hy : y = yn1 * 4294967296 + yn0) (h1 : 2147483648 ≤ yn1) (h0 : yn0 < 4294967296) (hu : u < y) (hd : d < 4294967296) : Kn yn1 u ((u * 4294967296 + d) / y) (u / yn1) (u % yn1) := by
  have hs : u / yn1 * yn1 + u % yn1 = u := Nat.div_add_mod' u yn1
  have ht : u / yn1 ≤ 4294967297 := by
    have : u / yn1 < 4294967298 := Nat.div_lt_of_lt_mul (by omega)
    omega
  refine ⟨hs, ?_, ht⟩
  have hq := Nat.div_add_mod' (u * 4294967296 + d) y
  have hr := Nat.mod_lt (u * 4294967296 + d) (show y > 0 by omega)
  have hqt : (u * 4294967296 + d) / y < 4294967296 := Nat.div_lt_of_lt_mul (by omega)
  generalize (u * 4294967296 + d) / y = qt at *
  generalize (u * 4294967296 + d) % y = r at *
  rcases Nat.lt_or_ge (u / yn1) qt with h | h
  · exfalso
    have hm : u % yn1 < yn1 := Nat.mod_lt _ (by omega)
    have h2 : (u / yn1 + 1) * yn1 ≤ qt * yn1 := Nat.mul_le_mul_right _ h
    rw [Nat.succ_mul] at h2
    have h3 := kn_mul (q1 := qt) hy
    have h4 : (u + 1) * 4294967296 ≤ qt * yn1 * 4294967296 := Nat.mul_le_mul_right _ (by omega)
    rw [Nat.succ_mul] at h4
    omega
  · exact h
theorem Kn.down {qt : Nat} (h : Kn yn1 u qt q rh) (hlt : qt < q) : Kn yn1 u qt (q - 1) (rh + yn1) := by
  obtain ⟨a, b, c⟩ := h
  obtain ⟨k, rfl⟩ : ∃ k, q = k + 1 := ⟨q - 1, by omega⟩
  refine ⟨?_, by omega, by omega⟩
  rw [Nat.succ_mul] at a
  show k * yn1 + (rh + yn1) = u
  omega
/-- The guess is the digit where the test says no. -/
theorem Kn.exit (h : Kn yn1 u ((u * 4294967296 + d) / y) q rh) (hy : y = yn1 * 4294967296 + yn0) (hy0 : 0 < y) (hc : q * yn0 ≤ 4294967296 * rh + d) : q = (u * 4294967296 + d) / y := by
  have hq := Nat.div_add_mod' (u * 4294967296 + d) y
  have hr := Nat.mod_lt (u * 4294967296 + d) (show y > 0 by omega)
  have := kn_le hy h.sum hq hr hc
  have := h.le
  omega
/-- .. and where what is left is a whole digit. -/
theorem Kn.brk (h : Kn yn1 u ((u * 4294967296 + d) / y) q rh) (hy : y = yn1 * 4294967296 + yn0) (hy0 : 0 < y) (h0 : yn0 < 4294967296) (hq : q ≤ 4294967296) (hr : 4294967296 ≤ rh) : q = (u * 4294967296 + d) / y := by
  refine h.exit hy hy0 ?_
  have h1 : q * yn0 ≤ 4294967296 * yn0 := Nat.mul_le_mul_right _ hq
  omega
/-- The test says that it is too great. -/
theorem Kn.big (h : Kn yn1 u ((u * 4294967296 + d) / y) q rh) (hy : y = yn1 * 4294967296 + yn0) (hc : 4294967296 * rh + d < q * yn0) : (u * 4294967296 + d) / y < q :=
  kn_gt hy h.sum (Nat.div_add_mod' (u * 4294967296 + d) y) hc
theorem Kn.over (hy0 : 0 < y) (hu : u < y) (hd : d < 4294967296) (hc : 4294967296 ≤ q) : (u * 4294967296 + d) / y < q := by
  have hqt : (u * 4294967296 + d) / y < 4294967296 := Nat.div_lt_of_lt_mul (by omega)
  omega
/-- A digit, and what is left. -/
theorem kn_rest : u * 4294967296 + d = (u * 4294967296 + d) / y * y + (u * 4294967296 + d) % y := (Nat.div_add_mod' _ _).symm
/-- Two digits together. -/
theorem kn_two {u1 d1 d0 q1 r1 q0 r0 : Nat} (e1 : u1 * 4294967296 + d1 = q1 * y + r1) (e0 : r1 * 4294967296 + d0 = q0 * y + r0) (hr : r0 < y) :
    (u1 * 18446744073709551616 + (d1 * 4294967296 + d0)) / y = q1 * 4294967296 + q0 ∧ (u1 * 18446744073709551616 + (d1 * 4294967296 + d0)) % y = r0 := by
  have e : u1 * 18446744073709551616 + (d1 * 4294967296 + d0) = (q1 * 4294967296 + q0) * y + r0 := by
    have h2 : (q1 * 4294967296 + q0) * y = q1 * y * 4294967296 + q0 * y := by rw [Nat.add_mul, Nat.mul_right_comm]
    rw [h2]
    generalize q1 * y = a at *
    generalize q0 * y = b at *
    clear hr h2
    grind
  rw [e]
  refine ⟨?_, ?_⟩
  · rw [Nat.add_comm, Nat.add_mul_div_right _ _ (by omega), Nat.div_eq_of_lt hr, Nat.zero_add]
  · rw [Nat.add_comm, Nat.add_mul_mod_self_right, Nat.mod_eq_of_lt hr]
end

/-- The same over the walk's numbers. -/
structure KnZ (yn1 u qt : Nat) (q r : Int) : Prop where
  q0 : 0 ≤ q
  r0 : 0 ≤ r
  r1 : r ≤ 4294967295
  kn : Kn yn1 u qt q.toNat r.toNat
theorem KnZ.mk' {yn1 u qt q' r' : Nat} {q r : Int} (hq : q = (q' : Int)) (hr : r = (r' : Int)) (k : Kn yn1 u qt q' r') (h : r' < 4294967296) : KnZ yn1 u qt q r := by
  subst hq hr
  exact ⟨by omega, by omega, by omega, k⟩
theorem KnZ.bounds {yn1 u qt : Nat} {q r : Int} (h : KnZ yn1 u qt q r) : 0 ≤ q ∧ q ≤ 4294967297 ∧ 0 ≤ r ∧ r ≤ 4294967295 := by
  have := h.kn.top; have := h.q0; have := h.r0; have := h.r1
  omega
section
variable {yn1 yn0 y u d : Nat} {q r : Int}
/-- The round's step, whyever the guess is too great. -/
theorem KnZ.step (h : KnZ yn1 u ((u * 4294967296 + d) / y) q r) (hlt : (((u * 4294967296 + d) / y : Nat) : Int) < q) (hR : ¬ 4294967296 ≤ r + (yn1 : Int)) : KnZ yn1 u ((u * 4294967296 + d) / y) (q - 1) (r + (yn1 : Int)) := by
  have := h.q0; have := h.r0
  generalize (u * 4294967296 + d) / y = qt at *
  have hk := h.kn.down (by omega)
  refine KnZ.mk' (q' := q.toNat - 1) (r' := r.toNat + yn1) (by omega) (by omega) hk (by omega)
theorem KnZ.fin (h : KnZ yn1 u ((u * 4294967296 + d) / y) q r) (hlt : (((u * 4294967296 + d) / y : Nat) : Int) < q) (hy : y = yn1 * 4294967296 + yn0) (hy0 : 0 < y) (h0 : yn0 < 4294967296) (hR : 4294967296 ≤ r + (yn1 : Int)) :
    q - 1 = (((u * 4294967296 + d) / y : Nat) : Int) := by
  have := h.q0; have := h.r0; have := h.kn.top
  have hk := h.kn.down (by generalize (u * 4294967296 + d) / y = qt at *; omega)
  have := hk.brk hy hy0 h0 (by omega) (by omega)
  generalize (u * 4294967296 + d) / y = qt at *
  omega
theorem KnZ.over (h : KnZ yn1 u ((u * 4294967296 + d) / y) q r) (hy0 : 0 < y) (hu : u < y) (hd : d < 4294967296) (hB : 4294967296 ≤ q) : (((u * 4294967296 + d) / y : Nat) : Int) < q := by
  have := Kn.over (q := q.toNat) hy0 hu hd (by have := h.q0; omega)
  have := h.q0
  omega
theorem zmul (h : 0 ≤ q) : q * (yn0 : Int) = ((q.toNat * yn0 : Nat) : Int) := by
  obtain ⟨k, rfl⟩ := Int.eq_ofNat_of_zero_le h
  simp
theorem KnZ.big (h : KnZ yn1 u ((u * 4294967296 + d) / y) q r) (hy : y = yn1 * 4294967296 + yn0) (hc : 4294967296 * r + (d : Int) < q * (yn0 : Int)) : (((u * 4294967296 + d) / y : Nat) : Int) < q := by
  have h0 := h.q0; have := h.r0
  rw [zmul h0] at hc
  have := h.kn.big hy (d := d) (by omega)
  omega
theorem KnZ.done (h : KnZ yn1 u ((u * 4294967296 + d) / y) q r) (hy : y = yn1 * 4294967296 + yn0) (hy0 : 0 < y) (hc : ¬ 4294967296 * r + (d : Int) < q * (yn0 : Int)) : q = (((u * 4294967296 + d) / y : Nat) : Int) := by
  have h0 := h.q0; have := h.r0
  rw [zmul h0] at hc
  have := h.kn.exit hy hy0 (d := d) (by omega)
  omega
theorem KnZ.prod (h0 : 0 ≤ q) (hB : q ≤ 4294967295) (h : yn0 < 4294967296) : 0 ≤ q * (yn0 : Int) ∧ q * (yn0 : Int) ≤ 18446744073709551615 := by
  rw [zmul h0]
  have : q.toNat * yn0 ≤ 4294967295 * 4294967295 := Nat.mul_le_mul (by omega) (by omega)
  omega
end

/-- What is left, as the machine reckons it: rounded to 64 bits at each step. -/
theorem rest_wrap (u d q y r : Nat) (e : u * 4294967296 + d = q * y + r) (hr : r < 18446744073709551616) :
    IntKind.u64.wrap (IntKind.u64.wrap (IntKind.u64.wrap ((u : Int) * 4294967296) + (d : Int)) - IntKind.u64.wrap ((q : Int) * (y : Int))) = (r : Int) := by
  rw [show (q : Int) * (y : Int) = ((q * y : Nat) : Int) by simp]
  simp only [IntKind.wrap_u64]
  generalize q * y = z at *
  omega
theorem rest_wrap' (u d q y r : Nat) (e : u * 4294967296 + d = q * y + r) (hr : r < 18446744073709551616) :
    IntKind.u64.wrap (IntKind.u64.wrap (IntKind.u64.wrap ((u : Int) * 4294967296) + (d : Int)) - IntKind.u64.wrap ((q : Int) * (y : Int))) = (r : Int) := rest_wrap u d q y r e hr
theorem kn_digit (u d y : Nat) (hy : 0 < y) : ∃ q r : Nat, q = (u * 4294967296 + d) / y ∧ u * 4294967296 + d = q * y + r ∧ r < y :=
  ⟨_, _, rfl, (Nat.div_add_mod' _ _).symm, Nat.mod_lt _ hy⟩
theorem two_wrap (q1 q0 n : Nat) (e : n = q1 * 4294967296 + q0) (hn : n < 18446744073709551616) : IntKind.u64.wrap (IntKind.u64.wrap ((q1 : Int) * 4294967296) + (q0 : Int)) = (n : Int) := by
  simp only [IntKind.wrap_u64]
  omega
theorem tup_eq {a b a' b' : Int} (h1 : a = a') (h2 : b = b') : Ending.returned (.tuple #[.int .u64 a, .int .u64 b]) = .returned (.tuple #[.int .u64 a', .int .u64 b']) := by rw [h1, h2]
theorem wrap_quo (a y : Nat) (h : a < 18446744073709551616) : IntKind.u64.wrap ((a : Int) / (y : Int)) = ((a / y : Nat) : Int) := by
  rw [show (a : Int) / (y : Int) = ((a / y : Nat) : Int) by simp, IntKind.wrap_u64]
  have := Nat.div_le_self a y
  generalize a / y = z at *
  omega
theorem remZ_lt (a : U) (k : Nat) (hk : 0 < k) : 0 ≤ remZ a k ∧ remZ a k < (k : Int) := by
  have := Nat.mod_lt a.n hk
  unfold remZ
  generalize a.n % k = z at *
  omega
theorem one_of_lt {k : Nat} {q : Int} (h : (k : Int) < q) : 1 ≤ q := by omega
theorem u64_eq {a b : Int} (h : a = b) : Value.int .u64 a = Value.int .u64 b := by rw [h]

/-! ### The shift that brings the divisor's first bit to the front. -/
theorem shl_or (a b s : Nat) (hb : b < 2 ^ s) : a * 2 ^ s ||| b = a * 2 ^ s + b := by
  rw [Nat.mul_comm]; exact (Nat.two_pow_add_eq_or_of_lt hb a).symm
theorem shift_split (lo s : Nat) (hs : s ≤ 64) : lo * 2 ^ s = lo / 2 ^ (64 - s) * 18446744073709551616 + lo * 2 ^ s % 18446744073709551616 := by
  have h : lo / 2 ^ (64 - s) = lo * 2 ^ s / 18446744073709551616 := by
    have e : (18446744073709551616 : Nat) = 2 ^ (64 - s) * 2 ^ s := by rw [← Nat.pow_add, show 64 - s + s = 64 by omega]
    rw [e, Nat.mul_div_mul_right _ _ (Nat.pow_pos (by decide))]
  rw [h]
  exact (Nat.div_add_mod' _ _).symm

theorem wrap_shl (a s : Nat) : IntKind.u64.wrap ((a : Int) * 2 ^ s) = ((a * 2 ^ s % 18446744073709551616 : Nat) : Int) := by
  rw [IntKind.wrap_u64, show ((a : Int) * 2 ^ s) = ((a * 2 ^ s : Nat) : Int) by simp]
  omega
theorem div_pow_cast (a k : Nat) : (a : Int) / 2 ^ k = ((a / 2 ^ k : Nat) : Int) := by simp
theorem shr_small (lo s : Nat) (hs : s ≤ 64) (hlo : lo < 18446744073709551616) : lo / 2 ^ (64 - s) < 2 ^ s := by
  refine Nat.div_lt_of_lt_mul ?_
  rw [← Nat.pow_add, show 64 - s + s = 64 by omega]
  exact hlo
/-- The dividend's first half stays below the divisor. -/
theorem shl_below {hi lo y s : Nat} (hs : s ≤ 64) (hlo : lo < 18446744073709551616) (hy : hi < y) : hi * 2 ^ s + lo / 2 ^ (64 - s) < y * 2 ^ s := by
  have h1 := shr_small lo s hs hlo
  have h2 : (hi + 1) * 2 ^ s ≤ y * 2 ^ s := Nat.mul_le_mul_right _ hy
  rw [Nat.succ_mul] at h2
  omega
/-- The quotient and what is left, out of the shifted ones. -/
theorem shl_quo {hi lo y s : Nat} (hs : s ≤ 64) : (hi * 18446744073709551616 + lo) / y = ((hi * 2 ^ s + lo / 2 ^ (64 - s)) * 18446744073709551616 + lo * 2 ^ s % 18446744073709551616) / (y * 2 ^ s) ∧
    (hi * 18446744073709551616 + lo) % y = ((hi * 2 ^ s + lo / 2 ^ (64 - s)) * 18446744073709551616 + lo * 2 ^ s % 18446744073709551616) % (y * 2 ^ s) / 2 ^ s := by
  have hp : 0 < 2 ^ s := Nat.pow_pos (by decide)
  have e : (hi * 2 ^ s + lo / 2 ^ (64 - s)) * 18446744073709551616 + lo * 2 ^ s % 18446744073709551616 = (hi * 18446744073709551616 + lo) * 2 ^ s := by
    have h := shift_split lo s hs
    rw [Nat.add_mul, Nat.add_mul, Nat.add_assoc, ← h, Nat.mul_right_comm]
  rw [e]
  exact ⟨(Nat.mul_div_mul_right _ _ hp).symm, by rw [Nat.mul_mod_mul_right, Nat.mul_div_cancel _ hp]⟩

end Go.Proofs.Ytkoiogfhbipmjaa
