/-
  WALKS: wide.Text: a number's decimal digits.
-/
import Derived.Test.YtnbchhjanlpdlaaDoorWdiv
import Derived.Test.YtnbchhjanlpdlaaDoorFmt
namespace Go.Proofs.YtnbchhjanlpdlaaDoor
open Go Go.RowKit

/-- b's digits, with noughts ahead, k places in all. -/
def padD (k b : Nat) : List UInt8 := List.replicate (k - Lib.nDigits b) 48 ++ Lib.decDigits b
theorem dec_small {b : Nat} (h : b < 10) : Lib.decDigits b = [UInt8.ofNat (48 + b)] := by rw [Lib.decDigits, dif_pos h]
theorem dec_big {b : Nat} (h : ¬ b < 10) : Lib.decDigits b = Lib.decDigits (b / 10) ++ [UInt8.ofNat (48 + b % 10)] := by
  conv => lhs; rw [Lib.decDigits, dif_neg h]
theorem pad_step (k b : Nat) (hk : 1 ≤ k) : padD (k + 1) b = padD k (b / 10) ++ [UInt8.ofNat (48 + b % 10)] := by
  unfold padD
  by_cases h : b < 10
  · rw [dec_small h, Lib.nDigits_small h, show b / 10 = 0 by omega, dec_small (show 0 < 10 by omega), Lib.nDigits_small (show 0 < 10 by omega), show b % 10 = b by omega, show k + 1 - 1 = (k - 1) + 1 by omega, List.replicate_succ']
    simp
  · rw [dec_big h, Lib.nDigits_big h, show k + 1 - (Lib.nDigits (b / 10) + 1) = k - Lib.nDigits (b / 10) by omega, List.append_assoc]
theorem dec_pad (k : Nat) : ∀ f b, 1 ≤ f → b < 10 ^ (k + 1) → Lib.decDigits (f * 10 ^ (k + 1) + b) = Lib.decDigits f ++ padD (k + 1) b := by
  induction k with
  | zero =>
    intro f b hf hb
    have hb' : b < 10 := by simpa using hb
    rw [dec_big (by simp; omega), show (f * 10 ^ (0 + 1) + b) / 10 = f by simp; omega, show (f * 10 ^ (0 + 1) + b) % 10 = b by simp; omega]
    unfold padD
    rw [dec_small hb', Lib.nDigits_small hb']
    simp
  | succ k ih =>
    intro f b hf hb
    have hp : 1 ≤ 10 ^ (k + 1) := Nat.one_le_pow _ _ (by decide)
    have e : f * 10 ^ (k + 1 + 1) + b = (f * 10 ^ (k + 1)) * 10 + b := by rw [Nat.pow_succ, Nat.mul_assoc]
    have h1 : 1 * 10 ^ (k + 1) ≤ f * 10 ^ (k + 1) := Nat.mul_le_mul_right _ hf
    rw [e, dec_big (by omega), show ((f * 10 ^ (k + 1)) * 10 + b) / 10 = f * 10 ^ (k + 1) + b / 10 by omega, show ((f * 10 ^ (k + 1)) * 10 + b) % 10 = b % 10 by omega,
      ih f (b / 10) hf (by rw [Nat.pow_succ] at hb; omega), pad_step (k + 1) b (by omega), List.append_assoc]
theorem dec_19 (n : Nat) (h : n / 10000000000000000000 ≠ 0) : Lib.decDigits n = Lib.decDigits (n / 10000000000000000000) ++ List.replicate (19 - Lib.nDigits (n % 10000000000000000000)) 48 ++ Lib.decDigits (n % 10000000000000000000) := by
  have := dec_pad 18 (n / 10000000000000000000) (n % 10000000000000000000) (by omega) (by omega)
  rw [show n / 10000000000000000000 * 10 ^ (18 + 1) + n % 10000000000000000000 = n by omega] at this
  rw [this, List.append_assoc]
  rfl
theorem nd_le (k : Nat) : ∀ u, u < 10 ^ (k + 1) → Lib.nDigits u ≤ k + 1 := by
  induction k with
  | zero => intro u hu; rw [Lib.nDigits_small (by simpa using hu)]; omega
  | succ k ih =>
    intro u hu
    by_cases hs : u < 10
    · rw [Lib.nDigits_small hs]; omega
    · rw [Lib.nDigits_big hs]
      have := ih (u / 10) (by rw [Nat.pow_succ] at hu; omega)
      omega
theorem nd_le19 {b : Nat} (h : b < 10000000000000000000) : Lib.nDigits b ≤ 19 := nd_le 18 b (by omega)
theorem nd_le39 (a : U) : Lib.nDigits a.n ≤ 39 := nd_le 38 a.n (by have := a.lt; omega)
theorem rep_any (c : Nat) (hc : c ≤ 19) : ∃ rep : List UInt8, rep = List.replicate c 48 ∧ rep.length ≤ 19 ∧ ∀ w, Calls Tryd.prog 47 #[.string ⟨#[48]⟩, .int .i64 c] w fun e w' => e = .returned (.string ⟨rep.toArray⟩) ∧ Below w.heap.size w w' := by
  refine ⟨_, rfl, by simpa using hc, fun w => ?_⟩
  refine (Tryd.strings_Repeat ⟨#[48]⟩ c _ (by omega) (by show 1 * _ ≤ _; omega)).mono ?_
  rintro e w' ⟨rfl, hb⟩
  refine ⟨?_, hb⟩
  have := Lib.repeatL_replicate 48 1 c
  rw [Nat.mul_one] at this
  rw [← this]
  rfl

theorem eql_wide (x y x' y' : Int) (w : World) : (binOp .eql 24 (.agg #[.int .u64 x, .int .u64 y]) (.agg #[.int .u64 x', .int .u64 y'])).run Tryd.prog w = .ok (.bool (x == x' && y == y')) w := by
  by_cases h : x = x'
  · subst h
    by_cases g : y = y'
    · subst g; go_simp
    · have g' : (y == y') = false := by simpa using g
      go_simp
  · have h' : (x == x') = false := by simpa using h
    go_simp
theorem eql_yes {x y x' y' : Int} (h : x = x') (g : y = y') (w : World) : (binOp .eql 24 (.agg #[.int .u64 x, .int .u64 y]) (.agg #[.int .u64 x', .int .u64 y'])).run Tryd.prog w = .ok (.bool true) w := by
  rw [eql_wide, h, g]; simp
theorem eql_no {x y x' y' : Int} (h : ¬ (x = x' ∧ y = y')) (w : World) : (binOp .eql 24 (.agg #[.int .u64 x, .int .u64 y]) (.agg #[.int .u64 x', .int .u64 y'])).run Tryd.prog w = .ok (.bool false) w := by
  rw [eql_wide, show (x == x' && y == y') = false by rw [Bool.eq_false_iff]; simpa using h]

theorem str_eq {l l' : List UInt8} (h : l = l') : Ending.returned (.string ⟨l.toArray⟩) = .returned (.string ⟨l'.toArray⟩) := by rw [h]

set_option maxHeartbeats 1000000 in
theorem text_any (m : Nat) : ∀ (a : U) (w : World), a.n < m → tabs w →
    Calls Tryd.prog 23 #[.agg #[.int .u64 (hiZ a), .int .u64 (loZ a)]] w fun e w' => e = .returned (.string ⟨(Lib.decDigits a.n).toArray⟩) ∧ Below w.heap.size w w' := by
  induction m with
  | zero => intro a w h; omega
  | succ m ih =>
    intro a w ha htab
    have IH := Lib.hid ih
    have HT := Lib.hid htab
    clear ih htab
    have hl := a.lt
    by_cases hz : a.n / 10000000000000000000 = 0
    · have hd : divU a 10000000000000000000 = U.zero := U.ext hz
      have he := eql_yes (x := hiZ (divU a 10000000000000000000)) (y := loZ (divU a 10000000000000000000)) (x' := 0) (y' := 0) (by rw [hd]; rfl) (by rw [hd]; rfl)
      have hr : a.n % 10000000000000000000 = a.n := by omega
      have HR := Lib.hid hr
      clear hd hr hl hz
      go_enter Tryd.func23, Tryd.ntmps23
      go_wp2_with fail
      refine (wdiv_any a 10000000000000000000 (by omega) (by omega) _).mono ?_
      rintro e w1 ⟨rfl, hb1⟩
      go_wp2_with fail
      have hB1 : Below w.heap.size w w1 := below_of ((Below.refl _ _).alloc (Nat.le_refl _) _) hb1
      have hB1' := hB1.alloc hB1.size (.cells #[.int .u64 (hiZ (divU a 10000000000000000000)), .int .u64 (loZ (divU a 10000000000000000000))] 24)
      refine (fmt_any (a.n % 10000000000000000000) (by omega) _ (tabs_stays HT.out hB1')).mono ?_
      rintro e w2 ⟨rfl, hb2⟩
      obtain ⟨hc2, hf2⟩ := bcell hb2
      have hB2 := Lib.hid (below_of hB1' hb2)
      clear hB1 hB1' hb2
      go_wp2_with fail
      go_ret
      exact ⟨str_eq (by rw [HR.out]), hB2.out⟩
    · have he := eql_no (x := hiZ (divU a 10000000000000000000)) (y := loZ (divU a 10000000000000000000)) (x' := 0) (y' := 0) (fun h => hz (by
        have := (divU a 10000000000000000000).val
        rw [h.1, h.2] at this
        have h2 : (divU a 10000000000000000000).n = 0 := by omega
        exact h2))
      have hr := dec_19 a.n hz
      have HR := Lib.hid hr
      have hn19 := nd_le19 (b := a.n % 10000000000000000000) (by omega)
      have HZ : Hid (¬ a.n / 10000000000000000000 = 0) := hz
      clear hr hl hz
      go_enter Tryd.func23, Tryd.ntmps23
      go_wp2_with fail
      refine (wdiv_any a 10000000000000000000 (by omega) (by omega) _).mono ?_
      rintro e w1 ⟨rfl, hb1⟩
      go_wp2_with fail
      have hB1 : Below w.heap.size w w1 := below_of ((Below.refl _ _).alloc (Nat.le_refl _) _) hb1
      have hB1' := hB1.alloc hB1.size (.cells #[.int .u64 (hiZ (divU a 10000000000000000000)), .int .u64 (loZ (divU a 10000000000000000000))] 24)
      refine (fmt_any (a.n % 10000000000000000000) (by omega) _ (tabs_stays HT.out hB1')).mono ?_
      rintro e w2 ⟨rfl, hb2⟩
      obtain ⟨hc2, hf2⟩ := bcell hb2
      have hB2 := Lib.hid (below_of hB1' hb2)
      clear hB1 hB1' hb2
      go_wp2_with fail
      refine (IH.out (divU a 10000000000000000000) _ (by show a.n / 10000000000000000000 < m; have := HZ.out; omega) (tabs_stays HT.out hB2.out)).mono ?_
      rintro e w3 ⟨rfl, hb3⟩
      have hB3 := Lib.hid (below_of hB2.out hb3)
      clear hb3
      go_wp2_with fail
      have hlen : (Lib.decDigits (a.n % 10000000000000000000)).length ≤ 19 := by rw [Lib.decDigits_length]; exact hn19
      have hw : wrap64 (19 - ((Lib.decDigits (a.n % 10000000000000000000)).length : Int)) = ((19 - Lib.nDigits (a.n % 10000000000000000000) : Nat) : Int) := by
        rw [Lib.decDigits_length]
        unfold wrap64
        omega
      rw [hw]
      clear hw hlen
      obtain ⟨rep, hrep, hrl, crep⟩ := rep_any (19 - Lib.nDigits (a.n % 10000000000000000000)) (by omega)
      have HREP := Lib.hid hrep
      refine (crep _).mono ?_
      rintro e w4 ⟨rfl, hb4⟩
      have hB4 := Lib.hid (below_of hB3.out hb4)
      have hl3 : (Lib.decDigits (divU a 10000000000000000000).n).length ≤ 39 := by rw [Lib.decDigits_length]; exact nd_le39 _
      have hl4 : (Lib.decDigits (a.n % 10000000000000000000)).length ≤ 19 := by rw [Lib.decDigits_length]; exact hn19
      clear hb4 crep hrep hn19
      go_wp2_with fail
      go_ret
      refine ⟨?_, hB4.out⟩
      rw [ByteArray.mk_append_mk, ByteArray.mk_append_mk, HREP.out]
      exact str_eq HR.out.symm
theorem text_of (a : U) (w : World) (h : tabs w) :
    Calls Tryd.prog 23 #[.agg #[.int .u64 (hiZ a), .int .u64 (loZ a)]] w fun e w' => e = .returned (.string ⟨(Lib.decDigits a.n).toArray⟩) ∧ Below w.heap.size w w' :=
  text_any (a.n + 1) a w (by omega) h
end Go.Proofs.YtnbchhjanlpdlaaDoor
