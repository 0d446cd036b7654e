/-
  WALKS: codec.Reader: Uint (in three contracts), Int, Text, Fixed, isWidth.
-/
import Derived.Test.YtkoajibjlcnjgaaRu
namespace Go.Proofs.Ytkoajibjlcnjgaa
open Go Go.RowKit

theorem ruint_some {P : Nat} {s : List UInt8} {n k : Nat} (er : rd 0 0 s = some (n, k)) (hs : s.length ≤ 140737488355328) (w : World) (h : Rd w P s false) :
    Calls Try.prog 25 #[.pointer (some ⟨P, 0, none⟩)] w fun e w' => e = .returned (.int .u64 n) ∧ Rd w' P (s.drop k) false ∧ Step (· = P) w w' := by
  refine (ruint_ok P s hs w h).mono fun e w' hu => ?_
  rcases hu with ⟨h1, _⟩ | ⟨n', k', h1, h2, h3, h4⟩
  · rw [er] at h1; cases h1
  · rw [er] at h1; cases h1; exact ⟨h2, h3, h4⟩
theorem ruint_none {P : Nat} {s : List UInt8} (er : rd 0 0 s = none) (hs : s.length ≤ 140737488355328) (w : World) (h : Rd w P s false) :
    Calls Try.prog 25 #[.pointer (some ⟨P, 0, none⟩)] w fun e w' => e = .returned (.int .u64 0) ∧ Rd w' P [] true ∧ Step (· = P) w w' := by
  refine (ruint_ok P s hs w h).mono fun e w' hu => ?_
  rcases hu with ⟨h1, h2, h3, h4⟩ | ⟨n', k', h1, h2, h3, h4⟩
  · exact ⟨h2, h3, h4⟩
  · rw [er] at h1; cases h1
theorem ruint_bad (P : Nat) (w : World) (h : Rd w P [] true) :
    Calls Try.prog 25 #[.pointer (some ⟨P, 0, none⟩)] w fun e w' => e = .returned (.int .u64 0) ∧ w = w' := by
  have HR := Lib.hid h
  clear h
  go_enter Try.func25, Try.ntmps25
  go_wp2
  go_step3
  go_wp2_with (first | (go_at_call 23; refine (bad_any P [] true _ HR.out).mono ?_; rintro e w' ⟨rfl, rfl⟩))
  try rw [Exit.noGoto_ret]
  go_ret
  exact ⟨rfl, rfl⟩

theorem iw_any (n : Int) (w : World) :
    Calls Try.prog 35 #[.int .i64 n] w fun e w' => e = .returned (.bool (decide (1 ≤ n) && decide (n ≤ 8))) ∧ w = w' := by
  by_cases h : 1 ≤ n
  · have h1 : decide (1 ≤ n) = true := by simpa using h
    go_enter Try.func35, Try.ntmps35
    go_wp2
    go_ret
    exact ⟨by simp [h], rfl⟩
  · have h1 : decide (1 ≤ n) = false := by simpa using h
    go_enter Try.func35, Try.ntmps35
    go_wp2
    go_ret
    exact ⟨by simp [h], rfl⟩

theorem u64_not (a : Nat) (ha : a < 18446744073709551616) : bits .xor .u64 IntKind.u64.max (a : Int) = 18446744073709551615 - (a : Int) := by
  show IntKind.u64.wrap ((BitVec.ofInt 64 IntKind.u64.max ^^^ BitVec.ofInt 64 (a : Int)).toNat : Int) = _
  have h1 : BitVec.ofInt 64 IntKind.u64.max = BitVec.allOnes 64 := by decide
  rw [h1, BitVec.allOnes_xor, BitVec.toNat_not, ofInt_u64 a (by omega), IntKind.wrap_u64]
  omega
theorem ret_i64 {a b : Int} (h : a = b) : Ending.returned (.int .i64 a) = .returned (.int .i64 b) := by rw [h]
theorem ret_u64 {a b : Int} (h : a = b) : Ending.returned (.int .u64 a) = .returned (.int .u64 b) := by rw [h]
set_option maxRecDepth 100000 in
/-- Int, of whatever Uint reads. -/
theorem rint_of {P : Nat} {n : Nat} (hn : n < 18446744073709551616) (w : World) (Q : World → Prop)
    (hc : Calls Try.prog 25 #[.pointer (some ⟨P, 0, none⟩)] w fun e w' => e = .returned (.int .u64 n) ∧ Q w') :
    Calls Try.prog 26 #[.pointer (some ⟨P, 0, none⟩)] w fun e w' => e = .returned (.int .i64 (unzz n)) ∧ Q w' := by
  have HC := Lib.hid hc
  clear hc
  have hn1 : (n : Int) ≤ 18446744073709551615 := by omega
  have HN := Lib.hid hn
  clear hn
  by_cases hp : n % 2 = 1
  · have t1 : ((n : Int) % 2 == 1) = true := by simp; omega
    have HP := Lib.hid hp
    clear hp
    go_enter Try.func26, Try.ntmps26
    go_wp2_with (first | (go_at_call 25; refine HC.out.mono ?_; rintro e w' ⟨rfl, hq⟩))
    go_ret
    refine ⟨ret_i64 ?_, hq⟩
    have := HN.out
    unfold unzz
    rw [if_pos HP.out, show (n : Int) / 2 = ((n / 2 : Nat) : Int) by omega, u64_not _ (by omega)]
    unfold wrap64
    omega
  · have t1 : ((n : Int) % 2 == 1) = false := by simp; omega
    have HP := Lib.hid hp
    clear hp
    go_enter Try.func26, Try.ntmps26
    go_wp2_with (first | (go_at_call 25; refine HC.out.mono ?_; rintro e w' ⟨rfl, hq⟩))
    go_ret
    refine ⟨ret_i64 ?_, hq⟩
    have := HN.out
    unfold unzz
    rw [if_neg HP.out]
    omega

/-! ### Int and Text, in each way. -/
theorem rint_some {P : Nat} {s : List UInt8} {n k : Nat} (er : rd 0 0 s = some (n, k)) (hs : s.length ≤ 140737488355328) (w : World) (h : Rd w P s false) :
    Calls Try.prog 26 #[.pointer (some ⟨P, 0, none⟩)] w fun e w' => e = .returned (.int .i64 (unzz n)) ∧ Rd w' P (s.drop k) false ∧ Step (· = P) w w' :=
  rint_of (rd_one er).2.1 w _ (ruint_some er hs w h)
theorem rint_none {P : Nat} {s : List UInt8} (er : rd 0 0 s = none) (hs : s.length ≤ 140737488355328) (w : World) (h : Rd w P s false) :
    Calls Try.prog 26 #[.pointer (some ⟨P, 0, none⟩)] w fun e w' => e = .returned (.int .i64 0) ∧ Rd w' P [] true ∧ Step (· = P) w w' :=
  rint_of (n := 0) (by omega) w _ (ruint_none er hs w h)
theorem rint_bad {P : Nat} (w : World) (h : Rd w P [] true) :
    Calls Try.prog 26 #[.pointer (some ⟨P, 0, none⟩)] w fun e w' => e = .returned (.int .i64 0) ∧ w = w' :=
  rint_of (n := 0) (by omega) w (fun w' => w = w') (ruint_bad P w h)

/-- Text: the size that was read is not above most: Raw. -/
theorem rtext_ok {P : Nat} {s : List UInt8} {n k : Nat} {m : Nat} (er : rd 0 0 s = some (n, k)) (hs : s.length ≤ 140737488355328) (hm : m ≤ 9223372036854775807) (hnm : n ≤ m) (hl : n ≤ (s.drop k).length) (w : World) (h : Rd w P s false) :
    Calls Try.prog 27 #[.pointer (some ⟨P, 0, none⟩), .int .i64 m] w fun e w' => e = .returned (.string (bs ((s.drop k).take n))) ∧ Rd w' P ((s.drop k).drop n) false ∧ Step (· = P) w w' := by
  have HR := Lib.hid h
  have HE := Lib.hid er
  have h0 : decide ((m : Int) < 0) = false := by simp
  have h1 : decide (m < n) = false := by simp; omega
  have hl2 : (s.drop k).length ≤ 140737488355328 := by rw [List.length_drop]; omega
  clear h er
  go_enter Try.func27, Try.ntmps27
  go_wp2_with (first | (go_at_call 25; refine (ruint_some HE.out hs _ HR.out).mono ?_; rintro e w1 ⟨rfl, hr1, hst1⟩; have HR1 := Lib.hid hr1; have HS1 := Lib.hid hst1; clear hr1 hst1) | (go_at_call 41; refine (raw_ok P _ n hl hl2 _ HR1.out).mono ?_; rintro e w2 ⟨rfl, hr2, hst2⟩))
  go_ret
  exact ⟨rfl, hr2, HS1.out.trans hst2⟩
end Go.Proofs.Ytkoajibjlcnjgaa
