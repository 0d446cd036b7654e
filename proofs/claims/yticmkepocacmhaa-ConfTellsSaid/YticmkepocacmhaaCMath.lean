/-
  PLAIN MATHEMATICS, no run of a program: a number as bytes (seven bits a byte), with a sign, of a fixed width; reading them back.
-/
import Derived.WalkKit
import Derived.Lib.AppendStr
namespace Go.Proofs.Yticmkepocacmhaa
open Go

/-! ### A number's bytes. -/
def ubF : Nat → Nat → List UInt8
  | 0, n => [UInt8.ofNat n]
  | k + 1, n => if n < 128 then [UInt8.ofNat n] else UInt8.ofNat (n % 128 + 128) :: ubF k (n / 128)
def ub (n : Nat) : List UInt8 := ubF 9 n
theorem ubF_len (f n : Nat) : 1 ≤ (ubF f n).length ∧ (ubF f n).length ≤ f + 1 := by
  induction f generalizing n with
  | zero => exact ⟨Nat.le_refl _, Nat.le_refl _⟩
  | succ f ih =>
    unfold ubF
    split
    · simp
    · have := ih (n / 128); simp only [List.length_cons]; omega
theorem ub_len (n : Nat) : 1 ≤ (ub n).length ∧ (ub n).length ≤ 10 := ubF_len 9 n
theorem ubF_lt {f n : Nat} (h : n < 128) : ubF f n = [UInt8.ofNat n] := by
  cases f with
  | zero => rfl
  | succ f => unfold ubF; rw [if_pos h]
theorem ubF_ge {f n : Nat} (h : 128 ≤ n) : ubF (f + 1) n = UInt8.ofNat (n % 128 + 128) :: ubF f (n / 128) := by
  show (if n < 128 then _ else _) = _
  rw [if_neg (by omega)]

/-- Reading a number: the place, what was read so far; the number, and how many bytes. -/
def rd : Nat → Nat → List UInt8 → Option (Nat × Nat)
  | _, _, [] => none
  | p, acc, b :: t =>
    if 0 < p ∧ b.toNat = 0 then none else if p = 9 ∧ 1 < b.toNat then none
    else if b.toNat < 128 then some (acc + b.toNat * 128 ^ p, p + 1) else rd (p + 1) (acc + (b.toNat - 128) * 128 ^ p) t

theorem pw (f : Nat) : 2 ^ (7 * (f + 1) + 1) = 128 * 2 ^ (7 * f + 1) := by
  rw [show 7 * (f + 1) + 1 = 7 + (7 * f + 1) by omega, Nat.pow_add]
theorem tn {n : Nat} (h : n < 256) : (UInt8.ofNat n).toNat = n := by
  simp; omega

theorem rd_ubF (f : Nat) : ∀ (p acc n : Nat) (rest : List UInt8), p + f = 9 → n < 2 ^ (7 * f + 1) → (0 < p → 0 < n) →
    rd p acc (ubF f n ++ rest) = some (acc + n * 128 ^ p, p + (ubF f n).length) := by
  induction f with
  | zero =>
    intro p acc n rest hp hn h0
    have h1 : n < 2 := by simpa using hn
    have hpp : p = 9 := by omega
    have h2 : (UInt8.ofNat n).toNat = n := tn (by omega)
    show rd p acc (UInt8.ofNat n :: rest) = _
    unfold rd
    rw [h2, if_neg (by omega), if_neg (by omega), if_pos (by omega)]
    rfl
  | succ f ih =>
    intro p acc n rest hp hn h0
    rw [pw] at hn
    by_cases h : n < 128
    · have h2 : (UInt8.ofNat n).toNat = n := tn (by omega)
      rw [ubF_lt h]
      show rd p acc (UInt8.ofNat n :: rest) = _
      unfold rd
      rw [h2, if_neg (by omega), if_neg (by omega), if_pos (by omega)]
      rfl
    · have h2 : (UInt8.ofNat (n % 128 + 128)).toNat = n % 128 + 128 := tn (by omega)
      rw [ubF_ge (by omega)]
      show rd p acc (UInt8.ofNat (n % 128 + 128) :: (ubF f (n / 128) ++ rest)) = _
      unfold rd
      rw [h2, if_neg (by omega), if_neg (by omega), if_neg (by omega), ih (p + 1) _ (n / 128) rest (by omega) (by omega) (by omega)]
      have e : acc + (n % 128 + 128 - 128) * 128 ^ p + n / 128 * 128 ^ (p + 1) = acc + n * 128 ^ p := by
        rw [Nat.add_sub_cancel, Nat.pow_succ, Nat.mul_comm (128 ^ p) 128, ← Nat.mul_assoc, Nat.add_assoc, ← Nat.add_mul]
        congr 2
        omega
      rw [e]
      simp only [List.length_cons]
      congr 2
      omega
theorem rd_ub (n : Nat) (rest : List UInt8) (hn : n < 18446744073709551616) : rd 0 0 (ub n ++ rest) = some (n, (ub n).length) := by
  have := rd_ubF 9 0 0 n rest rfl (by simpa using hn) (by omega)
  rw [Nat.pow_zero, Nat.mul_one, Nat.zero_add, Nat.zero_add] at this
  exact this
/-- What is read as a number is its bytes. -/
theorem rd_is (l : List UInt8) : ∀ (p acc v k : Nat), rd p acc l = some (v, k) → p ≤ 9 →
    ∃ n, l.take (k - p) = ubF (9 - p) n ∧ v = acc + n * 128 ^ p ∧ n < 2 ^ (7 * (9 - p) + 1) ∧ p < k ∧ k ≤ p + l.length ∧ (0 < p → 0 < n) := by
  induction l with
  | nil => intro p acc v k h; simp [rd] at h
  | cons b t ih =>
    intro p acc v k h hp
    have hb := b.toNat_lt
    unfold rd at h
    split at h
    · simp at h
    split at h
    · simp at h
    rename_i h1 h2
    split at h
    · rename_i h3
      simp only [Option.some.injEq, Prod.mk.injEq] at h
      obtain ⟨rfl, rfl⟩ := h
      refine ⟨b.toNat, ?_, rfl, ?_, by omega, by simp only [List.length_cons]; omega, by omega⟩
      · rw [ubF_lt h3, Nat.add_sub_cancel_left]
        simp
      · by_cases h9 : p = 9
        · subst h9; simp; omega
        · have : 2 ^ (7 * (9 - p) + 1) = 128 * 2 ^ (7 * (8 - p) + 1) := by rw [← pw]; congr 2; omega
          rw [this]
          have := Nat.two_pow_pos (7 * (8 - p) + 1)
          omega
    · rename_i h3
      have h9 : p ≠ 9 := by omega
      obtain ⟨n, e1, e2, e3, e4, e5, e6⟩ := ih _ _ _ _ h (by omega)
      have hn : 0 < n := e6 (by omega)
      have hm : (b.toNat - 128 + 128 * n) % 128 = b.toNat - 128 := by omega
      have hd : (b.toNat - 128 + 128 * n) / 128 = n := by omega
      refine ⟨b.toNat - 128 + 128 * n, ?_, ?_, ?_, by omega, by simp only [List.length_cons]; omega, by omega⟩
      · rw [show 9 - p = (9 - (p + 1)) + 1 by omega, ubF_ge (by omega), hm, hd, ← e1, show k - p = (k - (p + 1)) + 1 by omega]
        simp only [List.take_succ_cons, List.cons.injEq, and_true]
        rw [show b.toNat - 128 + 128 = b.toNat by omega]
        simp
      · rw [e2, Nat.pow_succ, Nat.add_mul, ← Nat.add_assoc, Nat.mul_comm (128 ^ p) 128, ← Nat.mul_assoc, Nat.mul_comm n 128]
      · have : 2 ^ (7 * (9 - p) + 1) = 128 * 2 ^ (7 * (9 - (p + 1)) + 1) := by rw [← pw]; congr 2; omega
        rw [this]
        omega
theorem rd_more (l : List UInt8) : ∀ (p acc : Nat) (x : Nat × Nat) (m : List UInt8), rd p acc l = some x → rd p acc (l ++ m) = some x := by
  induction l with
  | nil => intro p acc x m h; simp [rd] at h
  | cons b t ih =>
    intro p acc x m h
    rw [List.cons_append]
    unfold rd at h ⊢
    split at h
    · simp at h
    split at h
    · simp at h
    split at h
    · rename_i h1 h2 h3
      rw [if_neg h1, if_neg h2, if_pos h3]; exact h
    · rename_i h1 h2 h3
      rw [if_neg h1, if_neg h2, if_neg h3]; exact ih _ _ _ m h
theorem rd_one {l : List UInt8} {n k : Nat} (h : rd 0 0 l = some (n, k)) : l.take k = ub n ∧ n < 18446744073709551616 ∧ 0 < k ∧ k ≤ l.length := by
  obtain ⟨m, e1, e2, e3, e4, e5, _⟩ := rd_is l 0 0 n k h (by omega)
  have : m = n := by simp at e2; omega
  subst this
  exact ⟨e1, by simpa using e3, by omega, by omega⟩

/-! ### A number with a sign. -/
def zz (n : Int) : Nat := (if n < 0 then -2 * n - 1 else 2 * n).toNat
def unzz (n : Nat) : Int := if n % 2 = 1 then -((n / 2 : Nat) : Int) - 1 else ((n / 2 : Nat) : Int)
theorem unzz_zz (n : Int) : unzz (zz n) = n := by unfold unzz zz; split <;> split at * <;> omega
theorem zz_lt {n : Int} (h : -9223372036854775808 ≤ n) (h' : n ≤ 9223372036854775807) : zz n < 18446744073709551616 := by unfold zz; split <;> omega
theorem unzz_bd {n : Nat} (h : n < 18446744073709551616) : -9223372036854775808 ≤ unzz n ∧ unzz n ≤ 9223372036854775807 := by unfold unzz; split <;> omega

/-! ### A fixed number. -/
def fxF : Nat → Nat → List UInt8
  | 0, _ => []
  | w + 1, n => fxF w (n / 256) ++ [UInt8.ofNat (n % 256)]
def fx (w : Int) (n : Nat) : List UInt8 := if 1 ≤ w ∧ w ≤ 8 then fxF w.toNat n else []
theorem fxF_len (w n : Nat) : (fxF w n).length = w := by
  induction w generalizing n with
  | zero => rfl
  | succ w ih => unfold fxF; simp [ih]
/-- A number of bytes, the highest first. -/
def bev (l : List UInt8) : Nat := l.foldl (fun n b => n * 256 + b.toNat) 0
theorem bev_snoc (l : List UInt8) (b : UInt8) : bev (l ++ [b]) = bev l * 256 + b.toNat := by unfold bev; simp
theorem bev_fxF (w : Nat) : ∀ n, bev (fxF w n) = n % 256 ^ w := by
  induction w with
  | zero => intro n; simp [fxF, bev, Nat.mod_one]
  | succ w ih =>
    intro n
    unfold fxF
    rw [bev_snoc, ih, tn (Nat.mod_lt _ (by omega)), Nat.pow_succ, Nat.mul_comm (256 ^ w) 256, Nat.mod_mul]
    omega
theorem bev_lt (l : List UInt8) : bev l < 256 ^ l.length := by
  suffices h : ∀ (l : List UInt8) (a m : Nat), a < m → l.foldl (fun n b => n * 256 + b.toNat) a < m * 256 ^ l.length by
    simpa [bev] using h l 0 1 (by omega)
  intro l
  induction l with
  | nil => intro a m h; simpa using h
  | cons b t ih =>
    intro a m h
    have hb := b.toNat_lt
    have := ih (a * 256 + b.toNat) (m * 256) (by omega)
    simp only [List.foldl_cons, List.length_cons]
    rw [Nat.pow_succ, Nat.mul_comm (256 ^ t.length) 256, ← Nat.mul_assoc]
    exact this
end Go.Proofs.Yticmkepocacmhaa
