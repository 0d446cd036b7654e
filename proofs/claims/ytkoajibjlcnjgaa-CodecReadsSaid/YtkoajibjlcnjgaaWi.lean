/-
  WALKS: codec.Writer: Int, Text.
-/
import Derived.Test.YtkoajibjlcnjgaaWu
namespace Go.Proofs.Ytkoajibjlcnjgaa
open Go Go.RowKit

theorem wuint_z {P : Nat} {own : Nat → Prop} {l : List UInt8} {n : Nat} {z : Int} (hz : z = (n : Int)) (hl : l.length + 10 ≤ 140737488355328) (hn : n < 18446744073709551616) {w : World} (h : Wr w P own l) (hnew : ∀ k, w.heap.size ≤ k → own k) :
    Calls Try.prog 11 #[.pointer (some ⟨P, 0, none⟩), .int .u64 z] w fun e w' => e = .returned (.tuple #[]) ∧ Wr w' P own (l ++ ub n) ∧ Step own w w' := by
  subst hz
  exact wuint_any hl hn h hnew

theorem neg_zz {n : Int} (h0 : n < 0) (hn : -9223372036854775808 ≤ n) : bits .xor .u64 IntKind.u64.max (IntKind.u64.wrap (IntKind.u64.wrap n * 2)) = (zz n : Int) := by
  have e : IntKind.u64.wrap (IntKind.u64.wrap n * 2) = ((2 * n + 18446744073709551616).toNat : Int) := by
    rw [IntKind.wrap_u64, IntKind.wrap_u64]
    omega
  rw [e, u64_not _ (by omega)]
  unfold zz
  rw [if_pos h0]
  omega
theorem pos_zz {n : Int} (h0 : ¬ n < 0) (hn : n ≤ 9223372036854775807) : n * 2 = (zz n : Int) := by
  unfold zz
  rw [if_neg h0]
  omega
set_option maxHeartbeats 1000000 in
set_option maxRecDepth 100000 in
theorem wint_any {P : Nat} {own : Nat → Prop} {l : List UInt8} {n : Int} (hl : l.length + 10 ≤ 140737488355328) (hn : -9223372036854775808 ≤ n) (hn' : n ≤ 9223372036854775807) {w : World} (h : Wr w P own l) (hnew : ∀ k, w.heap.size ≤ k → own k) :
    Calls Try.prog 13 #[.pointer (some ⟨P, 0, none⟩), .int .i64 n] w fun e w' => e = .returned (.tuple #[]) ∧ Wr w' P own (l ++ ub (zz n)) ∧ Step own w w' := by
  have HZ := Lib.hid (zz_lt hn hn')
  have HC : Hid (∀ z : Int, z = (zz n : Int) → Calls Try.prog 11 #[.pointer (some ⟨P, 0, none⟩), .int .u64 z] w fun e w' => e = .returned (.tuple #[]) ∧ Wr w' P own (l ++ ub (zz n)) ∧ Step own w w') :=
    fun z hz => wuint_z hz hl HZ.out h hnew
  clear h hnew
  by_cases h0 : n < 0
  · go_enter Try.func13, Try.ntmps13
    go_wp2_with fail
    refine (HC.out _ (neg_zz h0 hn)).mono ?_; rintro e w1 ⟨rfl, hw1, hs1⟩
    go_wp2
    go_returns
    exact ⟨rfl, hw1, hs1⟩
  · go_enter Try.func13, Try.ntmps13
    go_wp2_with (go_at_call 11; refine (HC.out _ (pos_zz h0 hn')).mono ?_; rintro e w1 ⟨rfl, hw1, hs1⟩)
    go_end0
    exact ⟨rfl, hw1, hs1⟩

set_option maxHeartbeats 1000000 in
set_option maxRecDepth 100000 in
theorem wtext_any {P : Nat} {own : Nat → Prop} {l : List UInt8} (t : List UInt8) (hl : l.length + 10 + t.length ≤ 140737488355328) {w : World} (h : Wr w P own l) (hnew : ∀ k, w.heap.size ≤ k → own k) :
    Calls Try.prog 17 #[.pointer (some ⟨P, 0, none⟩), .string (bs t)] w fun e w' => e = .returned (.tuple #[]) ∧ Wr w' P own (l ++ (ub t.length ++ t)) ∧ Step own w w' := by
  have HW := Lib.hid h
  have HN := Lib.hid hnew
  have hz := bs_size t
  have h2 := (ub_len t.length).2
  have HL1 : Hid ((l ++ ub t.length).length + t.length ≤ 140737488355328) := by rw [List.length_append]; show _ ≤ _; omega
  have ht : (t.length : Int) ≤ 140737488355328 := by omega
  clear h hnew h2
  go_enter Try.func17, Try.ntmps17
  go_wp2_with (first | (go_at_call 11; refine (wuint_z (n := t.length) (by first | rfl | simp) (by omega) (by omega) HW.out HN.out).mono ?_; rintro e w1 ⟨rfl, hw1, hs1⟩; have HW1 := Lib.hid hw1; have HS1 := Lib.hid hs1; clear hw1 hs1) | (go_at_call 19; refine (wraw_any t HL1.out HW1.out (fun k hk => HN.out k (Nat.le_trans HS1.out.size hk))).mono ?_; rintro e w2 ⟨rfl, hw2, hs2⟩))
  go_end0
  refine ⟨rfl, ?_, HS1.out.trans hs2⟩
  rw [← List.append_assoc]
  exact hw2
end Go.Proofs.Ytkoajibjlcnjgaa
