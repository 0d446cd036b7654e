/-
  WALKS: plimsollref02: over, Less: which of two fractions is less, by the bytes of the products.
-/
import Derived.Test.YtnbchhjanlpdlaaDoorQp
namespace Go.Proofs.YtnbchhjanlpdlaaDoor
open Go Go.RowKit

theorem byt_up (x k : Nat) : byt (x / 256 ^ 16) k = byt x (16 + k) := by
  unfold byt
  rw [Nat.div_div_eq_div_mul, ← Nat.pow_add]
theorem up_next {x k : Nat} (h : x / 256 ^ 16 % 256 ^ k = 0) (hb : byt x (16 + k) = 0) : x / 256 ^ 16 % 256 ^ (k + 1) = 0 := by rw [byt_next, h, byt_up, hb, Nat.zero_mul]
theorem up_some {x k : Nat} (hb : byt x (16 + k) ≠ 0) : 256 ^ 16 ≤ x := by
  rcases Nat.lt_or_ge x (256 ^ 16) with h | h
  · exact absurd (byt_zero (Nat.lt_of_lt_of_le h (Nat.pow_le_pow_right (by decide) (by omega)))) hb
  · exact h
theorem up_none {x : Nat} (hx : x < 256 ^ 32) (h : x / 256 ^ 16 % 256 ^ 16 = 0) : x < 256 ^ 16 := by
  have h1 : x / 256 ^ 16 < 256 ^ 16 := Nat.div_lt_of_lt_mul (by rw [← Nat.pow_add]; exact hx)
  rw [Nat.mod_eq_of_lt h1] at h
  exact Nat.lt_of_div_eq_zero (p256 16) h
def overB (x : Nat) : Bool := decide (256 ^ 16 ≤ x)

set_option maxHeartbeats 2000000 in
set_option maxRecDepth 100000 in
theorem rover (x : Nat) (hx : x < 256 ^ 32) (w : World) :
    Calls Tryd.prog 52 #[.agg (A32 (byf x))] w fun e w' => e = .returned (.bool (overB x)) ∧ Below w.heap.size w w' := by
  have HX := Lib.hid hx
  clear hx
  go_enter Tryd.func52, Tryd.ntmps52
  go_upto_region 1 with fail
  obtain ⟨w0, hw0⟩ : ∃ w0, w0 = w.alloc (.cells (A32 (byf x)) 63) := ⟨_, rfl⟩
  obtain ⟨g, hg⟩ : ∃ g, g = w.heap.size := ⟨_, rfl⟩
  have HB : Hid (Blk32 w0 g (byf x)) := by rw [hw0]; exact Blk32.new_at _ _ hg
  have HW : Hid (Below w.heap.size w w0) := by rw [hw0]; exact (show Below w.heap.size w _ by go_grown)
  simp only [A32] at hw0
  rw [← hw0, ← hg]
  clear hw0 hg
  go_wp2_with fail
  go_loopw [7] (fun i wr => ∃ k : Nat, k ≤ 16 ∧ i = .int .i64 k ∧ wr = w0 ∧ x / 256 ^ 16 % 256 ^ k = 0) (fun i _ => 16 - (intOf i).toNat)
  case atStart => exact ⟨0, by omega, rfl, rfl, by simp [Nat.mod_one]⟩
  case round =>
    obtain ⟨k, hk, rfl, rfl, hz⟩ := hrel
    have HZ := Lib.hid hz
    clear hz
    by_cases hlt : k < 16
    · have c0 := HB.out.cell (j := 16 + k) (by omega)
      obtain ⟨v, hv⟩ : ∃ v, v = byt x (16 + k) := ⟨_, rfl⟩
      rw [show byf x (16 + k) = ((byt x (16 + k) : Nat) : Int) from rfl, ← hv] at c0
      have hv2 : v < 256 := by rw [hv]; exact byt_lt _ _
      have HV := Lib.hid hv
      clear hv
      by_cases h0 : v = 0
      · subst h0
        go_wp2_with fail
        go_roundw
        case rel => exact ⟨k + 1, by omega, by go_num, by first | trivial | rfl, up_next HZ.out HV.out.symm⟩
        case measure => simp [intOf] <;> omega
      · have hne : ((v : Int) != 0) = true := by simp; omega
        go_wp2_with fail
        go_ret
        refine ⟨?_, HW.out⟩
        have h := up_some (x := x) (k := k) (by rw [← HV.out]; exact h0)
        unfold overB
        rw [decide_eq_true h]
        rfl
    · go_wp2_with fail
      go_ret
      refine ⟨?_, HW.out⟩
      have hz := HZ.out
      rw [show k = 16 by omega] at hz
      have h := up_none HX.out hz
      unfold overB
      rw [show decide (256 ^ 16 ≤ x) = false from decide_eq_false (Nat.not_le.2 h)]
      rfl
end Go.Proofs.YtnbchhjanlpdlaaDoor
