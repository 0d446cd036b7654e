/-
  WALKS: codec.Reader: Text and Fixed, in each way.
-/
import Derived.Test.YtkoajibjlcnjgaaVf
namespace Go.Proofs.Ytkoajibjlcnjgaa
open Go Go.RowKit

set_option maxRecDepth 100000 in
theorem rtext_spoil {P n : Nat} {s' : List UInt8} {bad' : Bool} (m : Int) (hn : n < 18446744073709551616) (hm : m ≤ 9223372036854775807) (h : m < 0 ∨ m < n) (w : World)
    (hc : Calls Try.prog 25 #[.pointer (some ⟨P, 0, none⟩)] w fun e w' => e = .returned (.int .u64 n) ∧ Rd w' P s' bad' ∧ Step (· = P) w w') :
    Calls Try.prog 27 #[.pointer (some ⟨P, 0, none⟩), .int .i64 m] w fun e w' => e = .returned (.string (bs [])) ∧ Rd w' P [] true ∧ Step (· = P) w w' := by
  have HC := Lib.hid hc
  clear hc
  by_cases h0 : m < 0
  · clear h
    go_enter Try.func27, Try.ntmps27
    go_wp2_with (first | (go_at_call 25; refine HC.out.mono ?_; rintro e w1 ⟨rfl, hr1, hst1⟩; have HR1 := Lib.hid hr1; have HS1 := Lib.hid hst1; clear hr1 hst1) | (go_at_call 42; refine (spoil_any P _ _ _ HR1.out).mono ?_; rintro e w2 ⟨rfl, hr2, hst2⟩))
    go_ret
    exact ⟨rfl, hr2, HS1.out.trans hst2⟩
  · obtain ⟨k, rfl⟩ := Int.eq_ofNat_of_zero_le (a := m) (by omega)
    have h1 : decide ((k : Int) < 0) = false := by simp
    have h2 : decide (k < n) = true := by simp; omega
    clear h h0
    go_enter Try.func27, Try.ntmps27
    go_wp2_with (first | (go_at_call 25; refine HC.out.mono ?_; rintro e w1 ⟨rfl, hr1, hst1⟩; have HR1 := Lib.hid hr1; have HS1 := Lib.hid hst1; clear hr1 hst1) | (go_at_call 42; refine (spoil_any P _ _ _ HR1.out).mono ?_; rintro e w2 ⟨rfl, hr2, hst2⟩))
    go_ret
    exact ⟨rfl, hr2, HS1.out.trans hst2⟩

set_option maxRecDepth 100000 in
theorem rtext_raw {P n : Nat} {s' s2 t : List UInt8} {bad' bad2 : Bool} (m : Nat) (hm : (m : Int) ≤ 9223372036854775807) (hnm : n ≤ m) (w : World)
    (hc : Calls Try.prog 25 #[.pointer (some ⟨P, 0, none⟩)] w fun e w' => e = .returned (.int .u64 n) ∧ Rd w' P s' bad' ∧ Step (· = P) w w')
    (hr : ∀ w : World, Rd w P s' bad' → Calls Try.prog 41 #[.pointer (some ⟨P, 0, none⟩), .int .i64 n] w fun e w' => e = .returned (.string (bs t)) ∧ Rd w' P s2 bad2 ∧ Step (· = P) w w') :
    Calls Try.prog 27 #[.pointer (some ⟨P, 0, none⟩), .int .i64 m] w fun e w' => e = .returned (.string (bs t)) ∧ Rd w' P s2 bad2 ∧ Step (· = P) w w' := by
  have HC := Lib.hid hc
  have HRR := Lib.hid hr
  have h1 : decide ((m : Int) < 0) = false := by simp
  have h2 : decide (m < n) = false := by simp; omega
  have h3 : (n : Int) ≤ 9223372036854775807 := by omega
  clear hc hr
  go_enter Try.func27, Try.ntmps27
  go_wp2_with (first | (go_at_call 25; refine HC.out.mono ?_; rintro e w1 ⟨rfl, hr1, hst1⟩; have HR1 := Lib.hid hr1; have HS1 := Lib.hid hst1; clear hr1 hst1) | (go_at_call 41; refine (HRR.out _ HR1.out).mono ?_; rintro e w2 ⟨rfl, hr2, hst2⟩))
  go_ret
  exact ⟨rfl, hr2, HS1.out.trans hst2⟩

set_option maxRecDepth 100000 in
theorem rfixed_no {P : Nat} {s : List UInt8} {bad : Bool} (m : Int) (h : m < 1 ∨ 8 < m) (w : World) (hR : Rd w P s bad) :
    Calls Try.prog 28 #[.pointer (some ⟨P, 0, none⟩), .int .i64 m] w fun e w' => e = .returned (.int .u64 0) ∧ Rd w' P [] true ∧ Step (· = P) w w' := by
  have HR := Lib.hid hR
  clear hR
  by_cases h1 : m < 1
  · have d1 : decide (1 ≤ m) = false := by simp; omega
    clear h
    go_enter Try.func28, Try.ntmps28
    go_wp2_with (first | (go_at_call 35; refine (iw_any m _).mono ?_; rintro e w1 ⟨rfl, rfl⟩) | (go_at_call 42; refine (spoil_any P _ _ _ HR.out).mono ?_; rintro e w2 ⟨rfl, hr2, hst2⟩))
    go_ret
    exact ⟨rfl, hr2, hst2⟩
  · have d1 : decide (1 ≤ m) = true := by simp; omega
    have d2 : decide (m ≤ 8) = false := by simp; omega
    clear h
    go_enter Try.func28, Try.ntmps28
    go_wp2_with (first | (go_at_call 35; refine (iw_any m _).mono ?_; rintro e w1 ⟨rfl, rfl⟩) | (go_at_call 42; refine (spoil_any P _ _ _ HR.out).mono ?_; rintro e w2 ⟨rfl, hr2, hst2⟩))
    go_ret
    exact ⟨rfl, hr2, hst2⟩

set_option maxHeartbeats 1000000 in
set_option maxRecDepth 100000 in
theorem rfixed_nil {P : Nat} (m : Nat) (h1m : 1 ≤ m) (hm8 : m ≤ 8) (w : World)
    (hr : Calls Try.prog 41 #[.pointer (some ⟨P, 0, none⟩), .int .i64 m] w fun e w' => e = .returned (.string (bs [])) ∧ Rd w' P [] true ∧ Step (· = P) w w') :
    Calls Try.prog 28 #[.pointer (some ⟨P, 0, none⟩), .int .i64 m] w fun e w' => e = .returned (.int .u64 0) ∧ Rd w' P [] true ∧ Step (· = P) w w' := by
  have HC := Lib.hid hr
  have d1 : decide (1 ≤ (m : Int)) = true := by simp; omega
  have d2 : decide ((m : Int) ≤ 8) = true := by simp; omega
  have hz : (bs []).size = 0 := rfl
  clear hr
  go_enter Try.func28, Try.ntmps28
  go_wp2_with (first | (go_at_call 35; refine (iw_any m _).mono ?_; rintro e w1 ⟨rfl, rfl⟩) | (go_at_call 41; refine HC.out.mono ?_; rintro e w2 ⟨rfl, hr2, hst2⟩))
  go_loop [6, 18] (fun n i => i = .int .i64 0 ∧ n = .int .u64 0) (fun _ _ => 0)
  case atStart => exact ⟨rfl, rfl⟩
  case round =>
    obtain ⟨rfl, rfl⟩ := hrel
    go_wp2
    go_ret
    exact ⟨rfl, hr2, hst2⟩
end Go.Proofs.Ytkoajibjlcnjgaa
