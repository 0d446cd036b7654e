/-
  WALKS: what a reader reads of what a writer wrote: a number, one with a sign, a text, a fixed one.
-/
import Derived.Test.YtkoajibjlcnjgaaRf
namespace Go.Proofs.Ytkoajibjlcnjgaa
open Go Go.RowKit

/-! ### What is read, at the law's own values. -/
theorem cb1 {R n : Nat} {r : List UInt8} (hn : n < 18446744073709551616) (hs : (ub n ++ r).length ≤ 140737488355328) {w : World} (h : Rd w R (ub n ++ r) false) :
    Calls Try.prog 25 #[.pointer (some ⟨R, 0, none⟩)] w fun e w' => e = .returned (.int .u64 n) ∧ Rd w' R r false ∧ Step (· = R) w w' := by
  have := ruint_some (rd_ub n r hn) hs w h
  rwa [List.drop_left] at this
theorem cb2 {R : Nat} {n : Int} {r : List UInt8} (hn : -9223372036854775808 ≤ n ∧ n ≤ 9223372036854775807) (hs : (ub (zz n) ++ r).length ≤ 140737488355328) {w : World} (h : Rd w R (ub (zz n) ++ r) false) :
    Calls Try.prog 26 #[.pointer (some ⟨R, 0, none⟩)] w fun e w' => e = .returned (.int .i64 n) ∧ Rd w' R r false ∧ Step (· = R) w w' := by
  have := rint_some (rd_ub (zz n) r (zz_lt hn.1 hn.2)) hs w h
  rwa [List.drop_left, unzz_zz] at this
theorem cb3 {R m : Nat} {t r : List UInt8} (hm : m ≤ 9223372036854775807) (ht : t.length ≤ m) (hs : ((ub t.length ++ t) ++ r).length ≤ 140737488355328) {w : World} (h : Rd w R ((ub t.length ++ t) ++ r) false) :
    Calls Try.prog 27 #[.pointer (some ⟨R, 0, none⟩), .int .i64 m] w fun e w' => e = .returned (.string (bs t)) ∧ Rd w' R r false ∧ Step (· = R) w w' := by
  rw [List.append_assoc] at h hs
  have := rtext_ok (m := m) (rd_ub t.length (t ++ r) (by simp only [List.length_append] at hs; omega)) hs hm ht (by rw [List.drop_left]; simp) w h
  rwa [List.drop_left, List.take_left, List.drop_left] at this
theorem cb4 {R n : Nat} {r : List UInt8} (hn : n < 18446744073709551616) (hs : (fxF 8 n ++ r).length ≤ 140737488355328) {w : World} (h : Rd w R (fxF 8 n ++ r) false) :
    Calls Try.prog 28 #[.pointer (some ⟨R, 0, none⟩), .int .i64 8] w fun e w' => e = .returned (.int .u64 n) ∧ Rd w' R r false ∧ Step (· = R) w w' := by
  have hl := fxF_len 8 n
  have := rfixed_ok R (fxF 8 n ++ r) 8 (by omega) (by omega) (by simp only [List.length_append]; omega) hs w h
  have e1 : (fxF 8 n ++ r).take 8 = fxF 8 n := by rw [List.take_append_of_le_length (by omega), List.take_of_length_le (by omega)]
  have e2 : (fxF 8 n ++ r).drop 8 = r := by rw [List.drop_append_of_le_length (by omega), List.drop_of_length_le (by omega), List.nil_append]
  rw [e1, e2, bev_fxF, Nat.mod_eq_of_lt (by omega)] at this
  exact this
end Go.Proofs.Ytkoajibjlcnjgaa
