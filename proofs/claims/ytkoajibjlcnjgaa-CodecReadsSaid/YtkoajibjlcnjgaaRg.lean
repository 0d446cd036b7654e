/-
  WALKS: the document's answer for layer 3 (plimsollref03): Int, Text, Fixed.
-/
import Derived.Test.YtkoajibjlcnjgaaRe
import Derived.Test.YtkoajibjlcnjgaaWf
import Derived.Test.YtkoajibjlcnjgaaSf
import Derived.OwnWalk
import Derived.LoopTactic
namespace Go.Proofs.Ytkoajibjlcnjgaa
open Go Go.RowKit

theorem refu_z {n : Nat} {z : Int} (hz : z = (n : Int)) (hn : n < 18446744073709551616) (w : World) :
    Calls Try.prog 12 #[.int .u64 z] w fun e w' => e = .returned (.string (bs (ub n))) ∧ Below w.heap.size w w' := by
  subst hz
  exact refu 9 n w (by simpa using hn) (by omega)

set_option maxRecDepth 100000 in
theorem refint (n : Int) (h1 : -9223372036854775808 ≤ n) (h2 : n ≤ 9223372036854775807) (w : World) :
    Calls Try.prog 14 #[.int .i64 n] w fun e w' => e = .returned (.string (bs (ub (zz n)))) ∧ Below w.heap.size w w' := by
  have HC : Hid (∀ (z : Int), z = (zz n : Int) → Calls Try.prog 12 #[.int .u64 z] w fun e w' => e = .returned (.string (bs (ub (zz n)))) ∧ Below w.heap.size w w') :=
    fun z hz => refu_z hz (zz_lt h1 h2) w
  by_cases h0 : n < 0
  · go_enter Try.func14, Try.ntmps14
    go_wp2_with fail
    refine (HC.out _ ?_).mono ?_
    · unfold zz; rw [if_pos h0]; omega
    rintro e w1 ⟨rfl, hb⟩
    go_wp2_with fail
    go_ret
    exact ⟨rfl, hb⟩
  · go_enter Try.func14, Try.ntmps14
    go_wp2_with fail
    refine (HC.out _ ?_).mono ?_
    · unfold zz; rw [if_neg (by omega)]; omega
    rintro e w1 ⟨rfl, hb⟩
    go_wp2_with fail
    go_ret
    exact ⟨rfl, hb⟩

set_option maxRecDepth 100000 in
theorem reftext (t : List UInt8) (ht : t.length ≤ 2000) (w : World) :
    Calls Try.prog 18 #[.string (bs t)] w fun e w' => e = .returned (.string (bs (ub t.length ++ t))) ∧ Below w.heap.size w w' := by
  have hz := bs_size t
  have hz2 := bs_size (ub t.length)
  have hu := (ub_len t.length).2
  have hap := bs_append (ub t.length) t
  have ht' : (t.length : Int) ≤ 2000 := by omega
  go_enter Try.func18, Try.ntmps18
  go_wp2_with fail
  refine (refu_z (n := t.length) (by first | rfl | omega) (by omega) _).mono ?_
  rintro e w1 ⟨rfl, hb⟩
  go_wp2_with fail
  go_ret
  exact ⟨rfl, hb⟩

theorem fxF_end (m n : Nat) : fxF (m + 1) n = fxF m (n / 256) ++ [UInt8.ofNat (n % 256)] := rfl
theorem fxF_cons (k : Nat) : ∀ n, fxF (k + 1) n = UInt8.ofNat (n / 256 ^ k % 256) :: fxF k n := by
  induction k with
  | zero => intro n; simp [fxF]
  | succ k ih =>
    intro n
    rw [fxF_end, ih (n / 256), fxF_end, Nat.div_div_eq_div_mul, List.cons_append, Nat.pow_succ, Nat.mul_comm 256]
/-- The row after so many rounds. -/
def frow (m n k : Nat) : List UInt8 := List.replicate (m - k) 0 ++ fxF k n
theorem frow_len (m n k : Nat) (h : k ≤ m) : (frow m n k).length = m := by unfold frow; rw [List.length_append, List.length_replicate, fxF_len]; omega
theorem frow_next (m n k : Nat) (h : k < m) : (frow m n k).set (m - 1 - k) (UInt8.ofNat (n / 256 ^ k % 256)) = frow m n (k + 1) := by
  unfold frow
  rw [fxF_cons, show m - k = (m - 1 - k) + 1 by omega, List.replicate_succ', List.append_assoc, show m - (k + 1) = m - 1 - k by omega]
  rw [List.set_append, if_neg (by simp)]
  simp

set_option maxHeartbeats 1000000 in
set_option maxRecDepth 100000 in
theorem reffixed_no (m : Int) (h : m < 1 ∨ 8 < m) (n : Nat) (w : World) :
    Calls Try.prog 16 #[.int .i64 m, .int .u64 n] w fun e w' => e = .returned (.string (bs [])) ∧ w = w' := by
  by_cases h1 : m < 1
  · go_enter Try.func16, Try.ntmps16
    go_wp2
    go_ret
    exact ⟨rfl, rfl⟩
  · have h2 : 8 < m := by omega
    have d1 : decide (m < 1) = false := by simp; omega
    go_enter Try.func16, Try.ntmps16
    go_wp2
    go_ret
    exact ⟨rfl, rfl⟩

/-- A row of bytes of which all may be written. -/
structure RowZ (w : World) (g : Nat) (l : List UInt8) : Prop where
  blk : w.heap[g]? = some (.cells (l.map u8v).toArray 5 (0, 0))
theorem RowZ.cell {w : World} {g : Nat} {l : List UInt8} (h : RowZ w g l) {j : Nat} (hj : j < l.length) : w.cell? ⟨g, j, none⟩ = some (.int .u8 (l[j].toNat : Int)) := by
  rw [cell_blk h.blk]
  simp [List.getElem?_eq_getElem hj, u8v]
theorem RowZ.set {w : World} {g : Nat} {l : List UInt8} (h : RowZ w g l) (i : Nat) (b : UInt8) : RowZ (w.setCell ⟨g, i, none⟩ (u8v b)) g (l.set i b) := by
  refine ⟨?_⟩
  rw [set_blk h.blk]
  simp [List.map_set]

set_option maxHeartbeats 1000000 in
set_option maxRecDepth 100000 in
theorem reffixed (m n : Nat) (h1 : 1 ≤ m) (h8 : m ≤ 8) (hn : n < 18446744073709551616) (w : World) :
    Calls Try.prog 16 #[.int .i64 m, .int .u64 n] w fun e w' => e = .returned (.string (bs (fxF m n))) ∧ Below w.heap.size w w' := by
  obtain ⟨i0, hi, hz0, hz1, hz2⟩ := info_parts info_u8
  have d1 : decide ((m : Int) < 1) = false := by simp; omega
  have d2 : decide ((8 : Int) < m) = false := by simp; omega
  have hn' : (n : Int) ≤ 18446744073709551615 := by omega
  go_enter Try.func16, Try.ntmps16
  go_wp2_with (refine wpList_make_full _ rfl _ _ 54 rfl w.heap.size 5 i0 (.int .u8 0) 1 Try.underlying54 hi hz0 hz1 .i64 .i64 _ _ m rfl rfl rfl rfl (by rw [hz2]; omega) (by unfold maxLen; omega) (Nat.le_refl _) ?_)
  intro w1 hown hgrow
  have HB : Hid (Below w.heap.size w w1) := (Below.refl _ _).grown hgrow (Nat.le_refl _) (fun k h => by cases h)
  have hr : RowZ w1 w.heap.size (frow m n 0) := by
    rcases hown.2 with ⟨h, _⟩ | ⟨g, cap, cur, he, _, hg, _, _, hzz, ht⟩
    · cases h
    · cases he
      refine ⟨?_⟩
      rw [hg]
      have e1 : cur.toList = (frow m n 0).map u8v := by
        have e2 : cur.toList.take m = cur.toList := List.take_of_length_le (by simp; omega)
        rw [Nat.mul_one, e2] at ht
        rw [ht]
        show (madeCells #[Value.int .u8 0] m).toList = _
        rw [toList_madeCells_one]
        simp [frow, fxF, u8v]
      have e3 : cur = ((frow m n 0).map u8v).toArray := by rw [← e1]
      rw [e3]
  have HR := Lib.hid hr
  clear hr hown hgrow
  go_wp2_with fail
  go_loopw [1, 17] (fun x i wr => ∃ k y : Nat, k ≤ m ∧ y = n / 256 ^ k ∧ i = .int .i64 k ∧ x = .int .u64 y ∧ RowZ wr w.heap.size (frow m n k) ∧ Below w.heap.size w wr) (fun _ i _ => m - (intOf i).toNat)
  case atStart => exact ⟨0, n, by omega, by simp, rfl, rfl, HR.out, HB.out⟩
  case round =>
    obtain ⟨k, y, hk, hy, rfl, rfl, hR, hB⟩ := hrel
    clear HR HB
    have HR := Lib.hid hR
    have HB := Lib.hid hB
    have HY := Lib.hid hy
    clear hR hB
    have hyb : (y : Int) ≤ 18446744073709551615 := by have : n / 256 ^ k ≤ n := Nat.div_le_self _ _; omega
    clear hy
    by_cases hlt : k < m
    · have hlen := frow_len m n k hk
      have c := HR.out.cell (j := m - 1 - k) (by rw [hlen]; omega)
      have f := free_blk HR.out.blk (m - 1 - k)
      have hsub : (m : Int) - 1 - (k : Int) = ((m - 1 - k : Nat) : Int) := by omega
      go_wp2_with fail
      go_roundw
      case rel =>
        refine ⟨k + 1, y / 256, by omega, by rw [HY.out, Nat.div_div_eq_div_mul, Nat.pow_succ], by go_num, by go_num, ?_, HB.out.setCell (p := ⟨w.heap.size, m - 1 - k, none⟩) (Nat.le_refl _) _⟩
        have h2 := HR.out.set (m - 1 - k) (UInt8.ofNat (n / 256 ^ k % 256))
        rw [frow_next m n k hlt, u8v_of (Nat.mod_lt _ (by omega)), ← HY.out] at h2
        exact h2
      case measure => simp [intOf]; omega
    · obtain rfl : k = m := by omega
      have hfe : frow k n k = fxF k n := by simp [frow]
      have hR := HR.out
      rw [hfe] at hR
      have hlen := fxF_len k n
      have hcv : ∀ c : Nat, (convert 54 9 (.slice (some ⟨w.heap.size, 0, none⟩) k c)).run Try.prog wr = .ok (.string (bs (fxF k n))) wr := fun c => by
        have := run_convert_bytes_back wr _ _ 5 ⟨w.heap.size, 0, none⟩ c (fxF k n) Try.underlying54 Try.underlying5 Try.underlying9 (fun j hj => by rw [Addr.add_lit, Nat.zero_add]; exact hR.cell hj)
        rwa [hlen] at this
      clear hR hfe hlen
      go_wp2_with fail
      go_ret
      exact ⟨rfl, HB.out⟩
end Go.Proofs.Ytkoajibjlcnjgaa
