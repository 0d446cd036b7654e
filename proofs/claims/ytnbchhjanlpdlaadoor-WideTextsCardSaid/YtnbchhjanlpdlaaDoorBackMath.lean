/-
  PLAIN MATHEMATICS of the law WideBack: what is put to a number, and taken from it; so often and what is left; a number's digits are its text.
-/
import Derived.Test.YtnbchhjanlpdlaaDoorParse
import Derived.Test.YtnbchhjanlpdlaaDoorText
namespace Go.Proofs.YtnbchhjanlpdlaaDoor
open Go Go.RowKit

theorem back_add {a b : U} (h : a.n + b.n < 340282366920938463463374607431768211456) : subU (addU a b) b = a ∧ subE (addU a b) b = 0 ∧ lessB (addU a b) a = false := by
  have e : (addU a b).n = a.n + b.n := cutU_n h
  refine ⟨U.ext (by show (addU a b).n - b.n = a.n; omega), ?_, ?_⟩
  · unfold subE; rw [if_neg (by omega)]
  · unfold lessB; simp; omega
theorem back_div {a : U} {k : Nat} (hk : 0 < k) (hk' : k < 18446744073709551616) (D : U) (hD : (D.n : Int) = remZ a k) :
    timesE (divU a k) k = 0 ∧ addU (timesU (divU a k) k) D = a ∧ addE (timesU (divU a k) k) D = 0 := by
  have h0 : a.n / k * k + a.n % k = a.n := Nat.div_add_mod' a.n k
  have hl := a.lt
  have hD' : D.n = a.n % k := by unfold remZ at hD; omega
  have e1 : (divU a k).n * k < 340282366920938463463374607431768211456 := by
    show a.n / k * k < _
    generalize a.n / k * k = z at *
    generalize a.n % k = y at *
    omega
  have e2 : (timesU (divU a k) k).n = a.n / k * k := cutU_n e1
  have e3 : (timesU (divU a k) k).n + D.n = a.n := by rw [e2, hD', h0]
  refine ⟨cutE_lt e1, ?_, ?_⟩
  · unfold addU; rw [e3]; exact U.ext (cutU_n hl)
  · unfold addE; rw [e3]; exact cutE_lt hl
theorem ofNat_toNat48 {i : Nat} (h : i < 10) : (UInt8.ofNat (48 + i)).toNat = 48 + i := by
  rw [UInt8.toNat_ofNat']; omega
theorem dec_ok (n : Nat) : numV (Lib.decDigits n) = n ∧ (Lib.decDigits n).all digB = true ∧ Lib.decDigits n ≠ [] ∧ ((Lib.decDigits n).head? = some 48 → n = 0) := by
  induction n using Nat.strongRecOn with
  | _ n ih =>
    by_cases h : n < 10
    · rw [dec_small h]
      refine ⟨?_, ?_, by simp, ?_⟩
      · unfold numV
        simp only [List.foldl_cons, List.foldl_nil]
        rw [ofNat_toNat48 h]; omega
      · simp only [List.all_cons, List.all_nil, Bool.and_true]
        unfold digB
        rw [ofNat_toNat48 h]
        simp; omega
      · intro e
        simp only [List.head?_cons, Option.some.injEq] at e
        have := congrArg UInt8.toNat e
        rw [ofNat_toNat48 h] at this
        have h48 : (48 : UInt8).toNat = 48 := rfl
        omega
    · obtain ⟨i1, i2, i3, i4⟩ := ih (n / 10) (by omega)
      rw [dec_big h]
      refine ⟨?_, ?_, by simp, ?_⟩
      · unfold numV at i1 ⊢
        rw [List.foldl_append, i1]
        simp only [List.foldl_cons, List.foldl_nil]
        rw [ofNat_toNat48 (by omega)]; omega
      · rw [List.all_append, i2]
        simp only [List.all_cons, List.all_nil, Bool.and_true, Bool.true_and]
        unfold digB
        rw [ofNat_toNat48 (by omega)]
        simp; omega
      · intro e
        rw [List.head?_append] at e
        cases hd : (Lib.decDigits (n / 10)).head? with
        | none => exact absurd (List.head?_eq_none_iff.1 hd) i3
        | some x =>
          rw [hd] at e
          simp only [Option.some_or] at e
          have := i4 (by rw [hd, e])
          omega
theorem dec_isNum (n : Nat) : isNum (Lib.decDigits n) = true := by
  obtain ⟨_, h2, h3, h4⟩ := dec_ok n
  unfold isNum
  rw [h2, show (Lib.decDigits n).isEmpty = false by cases hc : Lib.decDigits n with | nil => exact absurd hc h3 | cons a l => rfl]
  by_cases hd : (Lib.decDigits n).head? = some 48
  · have := h4 hd
    rw [this]
    rw [dec_small (show 0 < 10 by omega)]
    rfl
  · rw [show ((Lib.decDigits n).head? == some 48) = false by simpa using hd]
    rfl
theorem par_dec (a : U) : parU (Lib.decDigits a.n) = a ∧ parE (Lib.decDigits a.n) = 0 := by
  obtain ⟨h1, _⟩ := dec_ok a.n
  have hi := dec_isNum a.n
  have hl := a.lt
  refine ⟨?_, ?_⟩
  · unfold parU; rw [if_pos hi, h1]; exact U.ext (cutU_n hl)
  · unfold parE; rw [if_pos ⟨hi, by rw [h1]; exact hl⟩]
theorem trich (a b : U) : (lessB a b = true ∧ lessB b a = false ∧ ¬ (hiZ a = hiZ b ∧ loZ a = loZ b)) ∨ (lessB a b = false ∧ lessB b a = true ∧ ¬ (hiZ a = hiZ b ∧ loZ a = loZ b)) ∨ (lessB a b = false ∧ lessB b a = false ∧ hiZ a = hiZ b ∧ loZ a = loZ b) := by
  unfold lessB
  have va := a.val; have vb := b.val
  rcases Nat.lt_trichotomy a.n b.n with h | h | h
  · refine Or.inl ⟨by simpa using h, by simp; omega, fun g => ?_⟩
    rw [g.1, g.2] at va; omega
  · have e := U.ext h
    refine Or.inr (Or.inr ⟨by simp; omega, by simp; omega, by rw [e], by rw [e]⟩)
  · refine Or.inr (Or.inl ⟨by simp; omega, by simpa using h, fun g => ?_⟩)
    rw [g.1, g.2] at va; omega

/-- What is left, 0 where nothing goes into it. -/
def remN' (a : U) (k : Nat) : Int := if k = 0 then 0 else remZ a k
theorem div_both (a : U) (k : Nat) (hk : k < 18446744073709551616) (w : World) :
    Calls Tryd.prog 13 #[.agg #[.int .u64 (hiZ a), .int .u64 (loZ a)], .int .u64 k] w fun e w' =>
      e = .returned (.tuple #[.agg #[.int .u64 (hiZ (divU a k)), .int .u64 (loZ (divU a k))], .int .u64 (remN' a k), .int .i64 (divE k)]) ∧ Below w.heap.size w w' := by
  by_cases h : k = 0
  · subst h
    refine (wdiv_zero a w).mono ?_
    rintro e w' ⟨rfl, hb⟩
    have e0 : divU a 0 = U.zero := U.ext (by show a.n / 0 = 0; simp)
    exact ⟨we4_eq (by rw [e0]; rfl) (by rw [e0]; rfl) rfl rfl, hb⟩
  · refine (wdiv_any a k (by omega) hk w).mono ?_
    rintro e w' ⟨rfl, hb⟩
    exact ⟨we4_eq rfl rfl (by unfold remN'; rw [if_neg h]) (by unfold divE; rw [if_neg h]), hb⟩
theorem rem_digit (a : U) (k : Nat) (hk0 : 0 < k) (hk : k < 18446744073709551616) : ∃ D : U, (0 : Int) = hiZ D ∧ remN' a k = loZ D ∧ (D.n : Int) = remZ a k := by
  have h := Nat.mod_lt a.n hk0
  refine ⟨U.small (a.n % k) (by omega), small_hi _ _, ?_, rfl⟩
  rw [← small_lo]
  unfold remN'
  rw [if_neg (by omega)]
  rfl
end Go.Proofs.YtnbchhjanlpdlaaDoor
