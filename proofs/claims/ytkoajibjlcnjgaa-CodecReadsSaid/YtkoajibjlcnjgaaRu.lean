/-
  WALKS: codec.Reader.Uint: what it reads, and what the reader is behind it.
-/
import Derived.Test.YtkoajibjlcnjgaaRd
import Derived.LoopTactic
import Derived.Laws.BitsAllLaws
namespace Go.Proofs.Ytkoajibjlcnjgaa
open Go Go.RowKit

theorem pow128 (k : Nat) : (128 : Nat) ^ k = 2 ^ (7 * k) := by rw [Nat.pow_mul]
theorem or_join {acc b k : Nat} (ha : acc < 128 ^ k) (hk : k ≤ 9) (hb : b < 128) (h9 : k = 9 → b ≤ 1) : acc ||| b * 128 ^ k = acc + b * 128 ^ k := by
  rw [Nat.or_comm, nat_join (7 * k) (b * 128 ^ k) acc (by rw [pow128]; exact Nat.mul_mod_left _ _) (by rw [← pow128]; exact ha), Nat.add_comm]
theorem pow_top {b k : Nat} (hk : k ≤ 9) (hb : b < 128) (h9 : k = 9 → b ≤ 1) : b * 128 ^ k < 18446744073709551616 := by
  by_cases h : k = 9
  · subst h
    have := h9 rfl
    omega
  · have h1 : 128 ^ k ≤ 128 ^ 8 := Nat.pow_le_pow_right (by omega) (by omega)
    have h2 : b * 128 ^ k ≤ b * 128 ^ 8 := Nat.mul_le_mul_left _ h1
    omega
theorem acc_top {acc k : Nat} (ha : acc < 128 ^ k) (hk : k ≤ 9) : acc < 18446744073709551616 := by
  have h1 : 128 ^ k ≤ 128 ^ 9 := Nat.pow_le_pow_right (by omega) hk
  omega
theorem or_val {acc b k : Nat} (ha : acc < 128 ^ k) (hk : k ≤ 9) (hb : b < 128) (h9 : k = 9 → b ≤ 1) :
    bits .or .u64 (acc : Int) (IntKind.u64.wrap ((b : Int) * 2 ^ (7 * k))) = ((acc + b * 128 ^ k : Nat) : Int) := by
  have hp := pow_top hk hb h9
  have e : (b : Int) * 2 ^ (7 * k) = ((b * 128 ^ k : Nat) : Int) := by rw [pow128]; simp
  rw [e, IntKind.wrap_u64, show ((b * 128 ^ k : Nat) : Int) % 18446744073709551616 = ((b * 128 ^ k : Nat) : Int) by omega, u64_or_nat _ _ (acc_top ha hk) hp, or_join ha hk hb h9]
theorem or_val9 {acc b : Nat} (ha : acc < 128 ^ 9) (hb : b ≤ 1) :
    bits .or .u64 (acc : Int) ((b : Int) * 9223372036854775808) = ((acc + b * 128 ^ 9 : Nat) : Int) := by
  have e : (b : Int) * 9223372036854775808 = ((b * 128 ^ 9 : Nat) : Int) := by simp
  rw [e, u64_or_nat _ _ (acc_top ha (by omega)) (pow_top (by omega) (by omega) (by omega)), or_join ha (by omega) (by omega) (by omega)]
theorem int_u64 {a b : Int} (h : a = b) : Value.int .u64 a = .int .u64 b := by rw [h]
theorem or_val' {acc b k : Nat} {z : Int} (ha : acc < 128 ^ k) (hk : k ≤ 8) (hb : b < 256) (hb' : 128 ≤ b) (hz : z = (b : Int) % 128) :
    bits .or .u64 (acc : Int) (IntKind.u64.wrap (z * 2 ^ (7 * k))) = ((acc + (b - 128) * 128 ^ k : Nat) : Int) := by
  rw [hz, show (b : Int) % 128 = ((b - 128 : Nat) : Int) by omega]
  exact or_val ha (by omega) (by omega) (by omega)
theorem acc_next {acc b k : Nat} (ha : acc < 128 ^ k) (hb : b < 128) : acc + b * 128 ^ k < 128 ^ (k + 1) := by
  rw [Nat.pow_succ]
  have : b * 128 ^ k ≤ 127 * 128 ^ k := Nat.mul_le_mul_right _ (by omega)
  omega

theorem rd_at {s : List UInt8} {k : Nat} (h : k < s.length) (acc : Nat) : rd k acc (s.drop k) =
    if 0 < k ∧ s[k].toNat = 0 then none else if k = 9 ∧ 1 < s[k].toNat then none
    else if s[k].toNat < 128 then some (acc + s[k].toNat * 128 ^ k, k + 1) else rd (k + 1) (acc + (s[k].toNat - 128) * 128 ^ k) (s.drop (k + 1)) := by
  rw [List.drop_eq_getElem_cons h]
  rfl
theorem bs_get (s : List UInt8) (k : Nat) (h : k < (bs s).size) : (bs s)[k] = s[k]'(by rwa [bs_size] at h) := by
  show (bs s).data[k] = _
  simp [bs]

/-- What Uint answers. -/
def UPost (P : Nat) (s : List UInt8) (w : World) (e : Ending) (w' : World) : Prop :=
  (rd 0 0 s = none ∧ e = .returned (.int .u64 0) ∧ Rd w' P [] true ∧ Step (· = P) w w') ∨
  (∃ n k : Nat, rd 0 0 s = some (n, k) ∧ e = .returned (.int .u64 n) ∧ Rd w' P (s.drop k) false ∧ Step (· = P) w w')

theorem upost_some {P : Nat} {s : List UInt8} {w : World} {n k : Nat} {v : Int} {x : ByteArray} (h : rd 0 0 s = some (n, k)) (hv : v = n) (hR : Rd w P s false) (hx : x = bs (s.drop k)) :
    UPost P s w (.returned (.int .u64 v)) (w.setCell ⟨P, 0, none⟩ (.string x)) := by
  subst hv hx
  refine Or.inr ⟨n, k, h, rfl, ⟨?_⟩, (Step.refl _ _).own _⟩
  rw [set_blk hR.blk _]
  rfl

set_option maxHeartbeats 1000000 in
set_option maxRecDepth 100000 in
theorem ruint_ok (P : Nat) (s : List UInt8) (hs : s.length ≤ 140737488355328) (w : World) (h : Rd w P s false) :
    Calls Try.prog 25 #[.pointer (some ⟨P, 0, none⟩)] w (UPost P s w) := by
  have c0 := h.c0
  have f0 := h.f0
  have hz := bs_size s
  have HR := Lib.hid h
  clear h
  go_enter Try.func25, Try.ntmps25
  go_wp2
  go_step3
  go_wp2_with (first | (go_at_call 23; refine (bad_any P s false _ HR.out).mono ?_; rintro e w' ⟨rfl, rfl⟩))
  go_step3
  go_wp2
  go_loop [3, 4, 14] (fun n z i => ∃ (k acc : Nat), k ≤ s.length ∧ k ≤ 9 ∧ acc < 128 ^ k ∧ rd 0 0 s = rd k acc (s.drop k) ∧ i = .int .i64 k ∧ z = .int .i64 0 ∧ n = .int .u64 acc)
    (fun _ _ i => s.length - (intOf i).toNat)
  case atStart => exact ⟨0, 0, by omega, by omega, by omega, rfl, rfl, rfl, rfl⟩
  case round =>
    obtain ⟨k, acc, hk, hk9, ha, hrd, rfl, rfl, rfl⟩ := hrel
    by_cases hlt : k < s.length
    · rw [rd_at hlt] at hrd
      have hg := bs_get s k (by rw [bs_size]; exact hlt)
      rw [← hg] at hrd
      have HD := Lib.hid hrd
      have HA := Lib.hid ha
      have HB := Lib.hid ((bs s)[k]'(by rw [bs_size]; exact hlt)).toNat_lt
      clear hrd hg ha
      go_wp2_with (first | (go_at_call 42; refine (spoil_any P s false _ HR.out).mono ?_; rintro e w' ⟨rfl, hr, hst⟩))
      · rw [Exit.noGoto_ret]
        go_ret
        have t1 : 0 < k := by assumption
        have t2 : ((((bs s)[k]'(by rw [bs_size]; exact hlt)).toNat : Int) == 0) = true := by assumption
        exact Or.inl ⟨by rw [HD.out, if_pos ⟨t1, by simpa using t2⟩], rfl, hr, hst⟩
      · rw [Exit.noGoto_ret]
        go_ret
        have t1 : (k : Int) = 9 := by assumption
        have t2 : ((((bs s)[k]'(by rw [bs_size]; exact hlt)).toNat : Int) == 0) = false := by assumption
        have t3 : 1 < (((bs s)[k]'(by rw [bs_size]; exact hlt)).toNat : Int) := by assumption
        have t4 : ¬ ((bs s)[k]'(by rw [bs_size]; exact hlt)).toNat = 0 := by simpa using t2
        exact Or.inl ⟨by rw [HD.out, if_neg (fun h => t4 h.2), if_pos ⟨by omega, by omega⟩], rfl, hr, hst⟩
      · go_ret
        have t1 : (k : Int) = 9 := by assumption
        have t2 : ((((bs s)[k]'(by rw [bs_size]; exact hlt)).toNat : Int) == 0) = false := by assumption
        have t3 : (((bs s)[k]'(by rw [bs_size]; exact hlt)).toNat : Int) ≤ 1 := by assumption
        have t4 : ¬ ((bs s)[k]'(by rw [bs_size]; exact hlt)).toNat = 0 := by simpa using t2
        have t5 : k = 9 := by omega
        refine upost_some (k := 10) (n := acc + ((bs s)[k]'(by rw [bs_size]; exact hlt)).toNat * 128 ^ 9) ?_ (or_val9 (by rw [← t5]; exact HA.out) (by omega)) HR.out (by rw [← hz, bs_drop])
        rw [HD.out, if_neg (fun h => t4 h.2), if_neg (fun h => by omega), if_pos (by omega)]
        simp only [t5]
      · go_ret
        have t1 : ¬ (k : Int) = 9 := by assumption
        have t2 : ((((bs s)[k]'(by rw [bs_size]; exact hlt)).toNat : Int) == 0) = false := by assumption
        have t3 : (((bs s)[k]'(by rw [bs_size]; exact hlt)).toNat : Int) < 128 := by assumption
        have t4 : ¬ ((bs s)[k]'(by rw [bs_size]; exact hlt)).toNat = 0 := by simpa using t2
        refine upost_some (k := k + 1) (n := acc + ((bs s)[k]'(by rw [bs_size]; exact hlt)).toNat * 128 ^ k) ?_ (or_val HA.out hk9 (by omega) (by omega)) HR.out (by rw [← hz, bs_drop])
        rw [HD.out, if_neg (fun h => t4 h.2), if_neg (fun h => by omega), if_pos (by omega)]
      · have t1 : ¬ (k : Int) = 9 := by assumption
        have t2 : ((((bs s)[k]'(by rw [bs_size]; exact hlt)).toNat : Int) == 0) = false := by assumption
        have t3 : 128 ≤ (((bs s)[k]'(by rw [bs_size]; exact hlt)).toNat : Int) := by assumption
        have t4 : ¬ ((bs s)[k]'(by rw [bs_size]; exact hlt)).toNat = 0 := by simpa using t2
        have hb := HB.out
        go_round
        case rel =>
          refine ⟨k + 1, acc + (((bs s)[k]'(by rw [bs_size]; exact hlt)).toNat - 128) * 128 ^ k, by omega, by omega, acc_next HA.out (by omega), ?_, by go_num, rfl, ?_⟩
          · rw [HD.out, if_neg (fun h => t4 h.2), if_neg (fun h => by omega), if_neg (by omega)]
          · refine int_u64 (or_val' HA.out (by omega) (by omega) (by omega) rfl)
        case measure => simp [intOf]; omega
      · go_ret
        have t0 : ¬ 0 < k := by assumption
        have t1 : ¬ (k : Int) = 9 := by assumption
        have t3 : (((bs s)[k]'(by rw [bs_size]; exact hlt)).toNat : Int) < 128 := by assumption
        refine upost_some (k := k + 1) (n := acc + ((bs s)[k]'(by rw [bs_size]; exact hlt)).toNat * 128 ^ k) ?_ (or_val HA.out hk9 (by omega) (by omega)) HR.out (by rw [← hz, bs_drop])
        rw [HD.out, if_neg (fun h => t0 h.1), if_neg (fun h => by omega), if_pos (by omega)]
      · have t0 : ¬ 0 < k := by assumption
        have t1 : ¬ (k : Int) = 9 := by assumption
        have t3 : 128 ≤ (((bs s)[k]'(by rw [bs_size]; exact hlt)).toNat : Int) := by assumption
        have hb := HB.out
        go_round
        case rel =>
          refine ⟨k + 1, acc + (((bs s)[k]'(by rw [bs_size]; exact hlt)).toNat - 128) * 128 ^ k, by omega, by omega, acc_next HA.out (by omega), ?_, by go_num, rfl, ?_⟩
          · rw [HD.out, if_neg (fun h => t0 h.1), if_neg (fun h => by omega), if_neg (by omega)]
          · refine int_u64 (or_val' HA.out (by omega) (by omega) (by omega) rfl)
        case measure => simp [intOf]; omega
    · go_wp2_with (first | (go_at_call 42; refine (spoil_any P s false _ HR.out).mono ?_; rintro e w' ⟨rfl, hr, hst⟩))
      go_ret
      refine Or.inl ⟨?_, rfl, hr, hst⟩
      rw [hrd, List.drop_of_length_le (by omega)]
      rfl
end Go.Proofs.Ytkoajibjlcnjgaa
