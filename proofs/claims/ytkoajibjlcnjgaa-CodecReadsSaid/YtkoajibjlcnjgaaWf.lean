/-
  WALKS: codec.Writer.Fixed: a number's lowest bytes, the highest first.
-/
import Derived.Test.YtkoajibjlcnjgaaWi
namespace Go.Proofs.Ytkoajibjlcnjgaa
open Go Go.RowKit

theorem fxF_take (m : Nat) : ∀ (n k : Nat), k < m → (fxF m n).take (k + 1) = (fxF m n).take k ++ [UInt8.ofNat (n / 256 ^ (m - 1 - k) % 256)] := by
  induction m with
  | zero => intro n k h; omega
  | succ m ih =>
    intro n k h
    have hl := fxF_len m (n / 256)
    unfold fxF
    rcases Nat.lt_or_ge k m with h1 | h1
    · rw [List.take_append_of_le_length (by omega), List.take_append_of_le_length (by omega), ih _ _ h1, Nat.div_div_eq_div_mul]
      rw [show m + 1 - 1 - k = (m - 1 - k) + 1 by omega, Nat.pow_succ, Nat.mul_comm 256]
    · have : k = m := by omega
      subst this
      rw [List.take_of_length_le (by simp [hl]), List.take_append_of_le_length (by omega), List.take_of_length_le (by omega)]
      simp

theorem fx_byte {n j : Nat} : (n : Int) / 2 ^ (8 * j) % 256 = ((n / 256 ^ j % 256 : Nat) : Int) := by
  rw [show (256 : Nat) ^ j = 2 ^ (8 * j) by rw [Nat.pow_mul]]
  simp
set_option maxHeartbeats 1000000 in
set_option maxRecDepth 100000 in
theorem wfixed_any {P : Nat} {own : Nat → Prop} {l : List UInt8} {n m : Nat} (hl : l.length + 10 ≤ 140737488355328) (hn : n < 18446744073709551616) (h1m : 1 ≤ m) (hm8 : m ≤ 8) {w : World} (h : Wr w P own l) (hnew : ∀ k, w.heap.size ≤ k → own k) :
    Calls Try.prog 15 #[.pointer (some ⟨P, 0, none⟩), .int .i64 m, .int .u64 n] w fun e w' => e = .returned (.tuple #[]) ∧ Wr w' P own (l ++ fxF m n) ∧ Step own w w' := by
  obtain ⟨i0, hi, hz0, hz1, hz2⟩ := info_parts info_u8
  have HW := Lib.hid h
  have HN := Lib.hid hnew
  have hn1 : (n : Int) ≤ 18446744073709551615 := by omega
  have d1 : decide (1 ≤ (m : Int)) = true := by simp; omega
  have d2 : decide ((m : Int) ≤ 8) = true := by simp; omega
  clear h hnew
  go_enter Try.func15, Try.ntmps15
  go_wp2_with (go_at_call 35; refine (iw_any m _).mono ?_; rintro e w1 ⟨rfl, rfl⟩)
  go_loopw [6, 12] (fun v i wr => ∃ k : Nat, k ≤ m ∧ i = .int .i64 k ∧ wr.ownsRow w.heap.size 5 1 v k (((fxF m n).take k).map u8v) ∧ Below w.heap.size w wr)
    (fun _ i _ => m - (intOf i).toNat)
  case atStart => exact ⟨0, by omega, rfl, World.ownsRow_nil _ _ _ _, Below.refl _ _⟩
  case round =>
    obtain ⟨k, hk, rfl, hown, hB⟩ := hrel
    have HB := Lib.hid hB
    clear hB
    by_cases hlt : k < m
    · go_wp2_with (at_builtin; refine wpList_append_own _ rfl _ _ 54 rfl w.heap.size 5 i0 (.int .u8 0) 1 1 Try.underlying54 hi hz0 hz1 hz2 rfl (by decide) _ _ _ rfl (hown.alloc _) ⟨wr.heap.size, 0, none⟩ 1 1 [.int .u8 ((n : Int) / 2 ^ (8 * (m - 1 - k)) % 256)] rfl rfl ?c1 ?c2 ?c3 ?c4 ?c5 ?_)
      case c1 => intro j u hj; match j, hj with | 0, hj => simp at hj; subst hj; simp [Addr.add]
      case c2 => intro u hu; simp at hu; subst hu; rfl
      case c3 => unfold maxLen; omega
      case c4 => omega
      case c5 => have := HB.out.size; simp; omega
      intro v' w1 hown1 hgrow _
      have HO := Lib.hid hown1
      have HB1 : Hid (Below w.heap.size w w1) := ((HB.out.alloc HB.out.size _).grown hgrow (by have := HB.out.size; simp; omega) (fun k hk => (hown.lt k hk).1))
      clear hown hown1 hgrow
      go_wp2
      go_roundw
      case rel =>
        refine ⟨k + 1, by omega, by go_num, ?_, HB1.out⟩
        have := HO.out
        rw [fx_byte, ← u8v_of (Nat.mod_lt _ (by omega)), ← List.map_take, ← List.map_singleton, ← List.map_append, ← fxF_take m n k hlt] at this
        exact this
      case measure => simp [intOf]; omega
    · obtain rfl : k = m := by omega
      have hlen := fxF_len k n
      rw [List.take_of_length_le (by omega)] at hown
      obtain ⟨g, cap', rfl⟩ : ∃ g cap', u6 = .slice (some ⟨g, 0, none⟩) k cap' := by
        rcases hown.2 with ⟨_, h⟩ | ⟨g, cap', _, h, _⟩
        · omega
        · exact ⟨g, cap', h⟩
      have hrow : Row wr g cap' (fxF k n) := Row.of_owns hown
      have hconv : (convert 54 9 (.slice (some ⟨g, 0, none⟩) k cap')).run Try.prog wr = .ok (.string (bs (fxF k n))) wr := by
        have := run_convert_bytes_back wr _ _ 5 ⟨g, 0, none⟩ cap' (fxF k n) Try.underlying54 Try.underlying5 Try.underlying9 (fun j hj => by rw [Addr.add_lit, Nat.zero_add]; exact hrow.cell hj)
        rwa [hlen] at this
      have HST : Hid (Step own w wr) := Step.of_below HB.out
      have HW1 : Hid (Wr wr P own l) := HW.out.step (S := fun _ => False) (Step.of_below HB.out) (fun _ _ _ h => h)
      have HN1 : Hid (∀ k, wr.heap.size ≤ k → own k) := fun k hk => HN.out k (Nat.le_trans HB.out.size hk)
      have HL : Hid (l.length + (fxF k n).length ≤ 140737488355328) := by rw [hlen]; show _ ≤ _; omega
      clear hown hrow hlen
      go_wp2_with (go_at_call 19; refine (wraw_any (fxF k n) HL.out HW1.out HN1.out).mono ?_; rintro e w2 ⟨rfl, hw2, hs2⟩)
      go_returns
      exact ⟨rfl, hw2, HST.out.trans hs2⟩
end Go.Proofs.Ytkoajibjlcnjgaa
