/-
  WALKS: seal.lowestFirst, seal.endsInLength, math/bits.ReverseBytes32.
-/
import Derived.Test.YtkoajibjlcnjgaaSu
namespace Go.Proofs.Ytkoajibjlcnjgaa
open Go Go.RowKit

/-- The bytes of a number of 32 bits, the other way round. -/
def revN (x : Nat) : Nat := (x % 256) * 16777216 + (x / 256 % 256) * 65536 + (x / 65536 % 256) * 256 + x / 16777216 % 256
theorem revN_lt (x : Nat) : revN x < 4294967296 := by unfold revN; omega
theorem dig4 {a b c d a' b' c' d' : Nat} (ha : a < 256) (hb : b < 256) (hc : c < 256) (hd : d < 256) (ha' : a' < 256) (hb' : b' < 256) (hc' : c' < 256) (hd' : d' < 256)
    (h : a * 16777216 + b * 65536 + c * 256 + d = a' * 16777216 + b' * 65536 + c' * 256 + d') : a = a' ∧ b = b' ∧ c = c' ∧ d = d' := by omega
theorem dig_of {x : Nat} (hx : x < 4294967296) : x = x / 16777216 % 256 * 16777216 + x / 65536 % 256 * 65536 + x / 256 % 256 * 256 + x % 256 := by omega
theorem revN_inj {x y : Nat} (hx : x < 4294967296) (hy : y < 4294967296) (h : revN x = revN y) : x = y := by
  unfold revN at h
  obtain ⟨e0, e1, e2, e3⟩ := dig4 (Nat.mod_lt _ (by omega)) (Nat.mod_lt _ (by omega)) (Nat.mod_lt _ (by omega)) (Nat.mod_lt _ (by omega)) (Nat.mod_lt _ (by omega)) (Nat.mod_lt _ (by omega)) (Nat.mod_lt _ (by omega)) (Nat.mod_lt _ (by omega)) h
  rw [dig_of hx, dig_of hy, e0, e1, e2, e3]
theorem and_up (x m i : Nat) : x &&& (m * 2 ^ i) = (x / 2 ^ i &&& m) * 2 ^ i := by
  refine Nat.eq_of_testBit_eq fun j => ?_
  rw [Nat.testBit_and, Nat.testBit_mul_two_pow, Nat.testBit_mul_two_pow, Nat.testBit_and, Nat.testBit_div_two_pow]
  by_cases h : i ≤ j
  · simp [h, show j - i + i = j by omega]
  · simp [h]
theorem and_mask (x : Nat) : x &&& 16711935 = x / 65536 % 256 * 65536 + x % 256 := by
  have e : (16711935 : Nat) = 255 * 2 ^ 16 ||| 255 := by decide
  rw [e, Nat.and_or_distrib_left, and_up, nat_mask8, nat_mask8, nat_join 16 _ _ (by omega) (by omega)]
theorem or4 {a b c d : Nat} (ha : a < 256) (hb : b < 256) (hc : c < 256) (hd : d < 256) :
    (d * 65536 + b) ||| (c * 16777216 + a * 256) = c * 16777216 + (d * 65536 + (a * 256 + b)) := by
  have e1 : d * 65536 + b = d * 65536 ||| b := (nat_join 16 _ _ (by omega) (by omega)).symm
  have e2 : c * 16777216 + a * 256 = c * 16777216 ||| a * 256 := (nat_join 24 _ _ (by omega) (by omega)).symm
  have e3 : a * 256 + b = a * 256 ||| b := (nat_join 8 _ _ (by omega) (by omega)).symm
  have e4 : d * 65536 + (a * 256 + b) = d * 65536 ||| (a * 256 + b) := (nat_join 16 _ _ (by omega) (by omega)).symm
  have e5 : c * 16777216 + (d * 65536 + (a * 256 + b)) = c * 16777216 ||| (d * 65536 + (a * 256 + b)) := (nat_join 24 _ _ (by omega) (by omega)).symm
  rw [e5, e4, e3, e1, e2, Nat.or_comm, Nat.or_assoc, Nat.or_comm (a * 256), Nat.or_assoc, Nat.or_comm b]
theorem or2 {p q : Nat} (hq : q < 65536) : q ||| p * 65536 = p * 65536 + q := by
  rw [Nat.or_comm, nat_join 16 _ _ (by omega) (by omega)]
theorem rev_val {x : Nat} (c : Nat) (hc : c = (x / 256 &&& 16711935) ||| (x &&& 16711935) * 256 % 4294967296) : c / 65536 ||| c * 65536 % 4294967296 = revN x := by
  rw [and_mask, and_mask] at hc
  have f1 : x / 256 / 65536 % 256 = x / 16777216 % 256 := by rw [Nat.div_div_eq_div_mul]
  rw [f1] at hc
  unfold revN
  have a0 : x % 256 < 256 := Nat.mod_lt _ (by omega)
  have a1 : x / 256 % 256 < 256 := Nat.mod_lt _ (by omega)
  have a2 : x / 65536 % 256 < 256 := Nat.mod_lt _ (by omega)
  have a3 : x / 16777216 % 256 < 256 := Nat.mod_lt _ (by omega)
  generalize x % 256 = b0 at *
  generalize x / 256 % 256 = b1 at *
  generalize x / 65536 % 256 = b2 at *
  generalize x / 16777216 % 256 = b3 at *
  rw [show (b2 * 65536 + b0) * 256 % 4294967296 = b2 * 16777216 + b0 * 256 by omega, or4 a0 a1 a2 a3] at hc
  have h1 : c / 65536 = b2 * 256 + b3 := by omega
  have h2 : c * 65536 % 4294967296 = (b0 * 256 + b1) * 65536 := by omega
  rw [h1, h2, or2 (by omega)]
  omega
theorem rev_bits {x : Nat} (hx : x < 4294967296) :
    bits .or .u32 (bits .or .u32 (bits .and .u32 ((x : Int) / 256) 16711935) (bits .and .u32 (x : Int) 16711935 * 256 % 4294967296) / 65536)
      (bits .or .u32 (bits .and .u32 ((x : Int) / 256) 16711935) (bits .and .u32 (x : Int) 16711935 * 256 % 4294967296) * 65536 % 4294967296) = ((revN x : Nat) : Int) := by
  have m : (16711935 : Int) = ((16711935 : Nat) : Int) := rfl
  have a1 : bits .and .u32 ((x : Int) / 256) 16711935 = ((x / 256 &&& 16711935 : Nat) : Int) := by
    rw [m, show (x : Int) / 256 = ((x / 256 : Nat) : Int) by omega, u32_and_nat _ _ (by omega) (by omega)]
  have a2 : bits .and .u32 (x : Int) 16711935 = ((x &&& 16711935 : Nat) : Int) := by rw [m, u32_and_nat _ _ hx (by omega)]
  have l1 : x / 256 &&& 16711935 < 4294967296 := Nat.lt_of_le_of_lt Nat.and_le_right (by omega)
  rw [a1, a2, show ((x &&& 16711935 : Nat) : Int) * 256 % 4294967296 = (((x &&& 16711935) * 256 % 4294967296 : Nat) : Int) by omega, u32_or_nat _ _ l1 (by omega)]
  have l2 : (x / 256 &&& 16711935) ||| (x &&& 16711935) * 256 % 4294967296 < 4294967296 := Nat.or_lt_two_pow (n := 32) l1 (by omega)
  have hv := rev_val (x := x) _ rfl
  generalize (x / 256 &&& 16711935) ||| (x &&& 16711935) * 256 % 4294967296 = c at *
  rw [show (c : Int) / 65536 = ((c / 65536 : Nat) : Int) by omega, show (c : Int) * 65536 % 4294967296 = ((c * 65536 % 4294967296 : Nat) : Int) by omega, u32_or_nat _ _ (by omega) (by omega), hv]

set_option maxHeartbeats 1000000 in
set_option maxRecDepth 100000 in
theorem rev_any (x : Nat) (hx : x < 4294967296) (w : World) :
    Calls Try.prog 47 #[.int .u32 x] w fun e w' => e = .returned (.int .u32 (revN x : Nat)) ∧ w = w' := by
  have hx1 : (x : Int) ≤ 4294967295 := by omega
  go_enter Try.func47, Try.ntmps47
  go_wp2
  go_ret
  exact ⟨ret_u32 (rev_bits hx), rfl⟩
set_option maxRecDepth 100000 in
theorem low_any (x : Nat) (hx : x < 4294967296) (w : World) :
    Calls Try.prog 44 #[.int .u32 x] w fun e w' => e = .returned (.int .u64 (revN x : Nat)) ∧ w = w' := by
  have h1 := revN_lt x
  have h2 : ((revN x : Nat) : Int) ≤ 4294967295 := by omega
  clear h1
  go_enter Try.func44, Try.ntmps44
  go_wp2_with fail
  refine (rev_any x hx _).mono ?_
  rintro e w' ⟨rfl, rfl⟩
  go_wp2_with fail
  go_ret
  exact ⟨rfl, rfl⟩

/-- endsInLength, where a byte ends the length, or there are too many. -/
theorem eil_long (s : List UInt8) (h : 10 ≤ s.length) (hs : s.length ≤ 140737488355328) (w : World) :
    Calls Try.prog 45 #[.string (bs s)] w fun e w' => e = .returned (.bool false) ∧ w = w' := by
  have hz := bs_size s
  go_enter Try.func45, Try.ntmps45
  go_wp2
  go_ret
  exact ⟨rfl, rfl⟩
set_option maxHeartbeats 1000000 in
set_option maxRecDepth 100000 in
theorem eil_short (s : List UInt8) (hl : s.length < 10) (i : Nat) (hi : i < s.length) (hb : s[i].toNat < 128) (w : World) :
    Calls Try.prog 45 #[.string (bs s)] w fun e w' => e = .returned (.bool false) ∧ w = w' := by
  have hz := bs_size s
  have HB := Lib.hid hb
  clear hb
  go_enter Try.func45, Try.ntmps45
  go_wp2
  go_loop [9] (fun j => ∃ k : Nat, k ≤ i ∧ j = .int .i64 k) (fun j => s.length - (intOf j).toNat)
  case atStart => exact ⟨0, by omega, rfl⟩
  case round =>
    obtain ⟨k, hk, rfl⟩ := hrel
    have hlt : k < s.length := by omega
    by_cases hc : ((bs s)[k]'(by rw [bs_size]; exact hlt)).toNat < 128
    · go_wp2
      go_ret
      exact ⟨rfl, rfl⟩
    · have hne : k ≠ i := by
        rintro rfl
        rw [bs_get s k (by rw [bs_size]; exact hlt)] at hc
        exact hc HB.out
      go_wp2
      go_round
      case rel => exact ⟨k + 1, by omega, by go_num⟩
      case measure => simp [intOf]; omega
end Go.Proofs.Ytkoajibjlcnjgaa
