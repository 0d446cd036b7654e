/-
  WALKS: codec.Reader.Fixed: a number of so many bytes, the highest first.
-/
import Derived.Test.YtkoajibjlcnjgaaRi
namespace Go.Proofs.Ytkoajibjlcnjgaa
open Go Go.RowKit

theorem bev_take (l : List UInt8) (k : Nat) (h : k < l.length) : bev (l.take (k + 1)) = bev (l.take k) * 256 + l[k].toNat := by
  rw [List.take_succ_eq_append_getElem h, bev_snoc]
theorem bev_take_lt (l : List UInt8) (k : Nat) (h : k ≤ l.length) (h8 : l.length ≤ 8) : bev (l.take k) < 256 ^ k ∧ bev (l.take k) < 18446744073709551616 := by
  have h1 := bev_lt (l.take k)
  rw [List.length_take, Nat.min_eq_left h] at h1
  have h2 : 256 ^ k ≤ 256 ^ 8 := Nat.pow_le_pow_right (by omega) (by omega)
  exact ⟨h1, by omega⟩
theorem shl_or {x b : Nat} (hx : x < 72057594037927936) (hb : b < 256) : bits .or .u64 (IntKind.u64.wrap ((x : Int) * 256)) (b : Int) = ((x * 256 + b : Nat) : Int) := by
  rw [IntKind.wrap_u64, show (x : Int) * 256 % 18446744073709551616 = ((x * 256 : Nat) : Int) by omega, u64_or_nat _ _ (by omega) (by omega), nat_join 8 _ _ (by omega) (by omega)]

theorem fx_step {t : List UInt8} {k : Nat} (h : k < t.length) (h8 : t.length ≤ 8) :
    bits .or .u64 (IntKind.u64.wrap ((bev (t.take k) : Int) * 256)) (IntKind.u64.wrap (t[k].toNat : Int)) = ((bev (t.take (k + 1)) : Nat) : Int) := by
  have hb := (bev_take_lt t k (by omega) h8).1
  have h7 : 256 ^ k ≤ 256 ^ 7 := Nat.pow_le_pow_right (by omega) (by omega)
  have hc := t[k].toNat_lt
  rw [bev_take t k h, IntKind.wrap_u64 (t[k].toNat : Int), show (t[k].toNat : Int) % 18446744073709551616 = (t[k].toNat : Int) by omega, shl_or (by omega) hc]
set_option maxHeartbeats 1000000 in
set_option maxRecDepth 100000 in
theorem rfixed_ok (P : Nat) (s : List UInt8) (m : Nat) (h1m : 1 ≤ m) (hm8 : m ≤ 8) (hml : m ≤ s.length) (hs : s.length ≤ 140737488355328) (w : World) (h : Rd w P s false) :
    Calls Try.prog 28 #[.pointer (some ⟨P, 0, none⟩), .int .i64 m] w fun e w' => e = .returned (.int .u64 (bev (s.take m) : Nat)) ∧ Rd w' P (s.drop m) false ∧ Step (· = P) w w' := by
  have HR := Lib.hid h
  have d1 : decide (1 ≤ (m : Int)) = true := by simp; omega
  have d2 : decide ((m : Int) ≤ 8) = true := by simp; omega
  have hz : (bs (s.take m)).size = m := by rw [bs_size, List.length_take]; omega
  have hl : (s.take m).length = m := by rw [List.length_take]; omega
  have HL := Lib.hid hl
  clear h hl
  go_enter Try.func28, Try.ntmps28
  go_wp2_with (first | (go_at_call 35; refine (iw_any m _).mono ?_; rintro e w1 ⟨rfl, rfl⟩) | (go_at_call 41; refine (raw_ok P _ m hml hs _ HR.out).mono ?_; rintro e w2 ⟨rfl, hr2, hst2⟩))
  generalize htt : s.take m = t at *
  go_loop [6, 18] (fun n i => ∃ k : Nat, k ≤ m ∧ i = .int .i64 k ∧ n = .int .u64 (bev (t.take k) : Nat)) (fun _ i => m - (intOf i).toNat)
  case atStart => exact ⟨0, by omega, rfl, rfl⟩
  case round =>
    obtain ⟨k, hk, rfl, rfl⟩ := hrel
    have hb := bev_take_lt t k (by rw [HL.out]; exact hk) (by rw [HL.out]; exact hm8)
    by_cases hlt : k < m
    · go_wp2
      go_round
      case rel =>
        have hlt' : k < t.length := by rw [HL.out]; exact hlt
        refine ⟨k + 1, by omega, by go_num, int_u64 ?_⟩
        rw [bs_get t k (by rw [bs_size]; exact hlt')]
        exact fx_step hlt' (by rw [HL.out]; exact hm8)
      case measure => simp [intOf]; omega
    · go_wp2
      go_ret
      refine ⟨ret_u64 ?_, hr2, hst2⟩
      rw [List.take_of_length_le (by rw [HL.out]; omega)]
end Go.Proofs.Ytkoajibjlcnjgaa
