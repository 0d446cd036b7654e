/-
  WALKS: seal.Sum: the check sum of any bytes.
-/
import Derived.Test.YtkoajibjlcnjgaaSt
namespace Go.Proofs.Ytkoajibjlcnjgaa
open Go Go.RowKit

theorem sumOf_take (s : List UInt8) (k : Nat) (h : k < s.length) (r : Nat) : sumOf r (s.take (k + 1)) = sumStep (sumOf r (s.take k)) s[k].toNat := by
  rw [List.take_succ_eq_append_getElem h, sumOf_append]
  rfl

set_option maxHeartbeats 4000000 in
set_option maxRecDepth 100000 in
theorem sum_any (s : List UInt8) (hs : s.length ≤ 140737488355328) (w : World) :
    Calls Try.prog 30 #[.string (bs s)] w fun e w' => e = .returned (.int .u32 (sumN s : Nat)) ∧ Below w.heap.size w w' := by
  have hz := bs_size s
  have hz0 := zero80
  go_enter Try.func30, Try.ntmps30
  go_wp2_with fail
  refine (table_any _).mono ?_
  rintro e w1 ⟨rfl, hb⟩
  have hb0 : (w1.alloc (.cells (tabC 0) 80)).heap[w1.heap.size]? = some (.cells (tabC 0) 80 (0, 0)) := alloc_blk _ _
  go_wp2_with (refine wpList_store_row rfl 80 _ _ rfl w1.heap.size (tabC 256) rfl rfl 80 (tabC 0) hb0 (by rw [size80, tabC_size]) (by rw [tabC_size, tabC_size]) (by kernel_rfl) ?_)
  have hT := setRow_heap (w1.alloc (.cells (tabC 0) 80)) w1.heap.size (tabC 0) (tabC 256) 80 (0, 0) hb0
  have HB : Hid (Below w.heap.size w ((w1.alloc (.cells (tabC 0) 80)).setRow w1.heap.size (tabC 256))) := by
    have h1 : Below w.heap.size w (w1.alloc (.cells (tabC 0) 80)) := hb.alloc hb.size _
    have hsz := hb.size
    exact ⟨h1.os, h1.tape, h1.output, by simpa using h1.size, fun k hk => (setRow_other _ w1.heap.size k _ (by omega)).trans (h1.block k hk)⟩
  have HT := Lib.hid hT
  clear hT hb hb0 hz0
  generalize ((w1.alloc (.cells (tabC 0) 80)).setRow w1.heap.size (tabC 256)) = w2 at *
  generalize w1.heap.size = T at *
  go_loop [4, 9] (fun r i => ∃ k : Nat, k ≤ s.length ∧ i = .int .i64 k ∧ r = .int .u32 (sumOf 4294967295 (s.take k) : Nat)) (fun _ i => s.length - (intOf i).toNat)
  case atStart => exact ⟨0, by omega, rfl, rfl⟩
  case round =>
    obtain ⟨k, hk, rfl, rfl⟩ := hrel
    by_cases hlt : k < s.length
    · have hr : sumOf 4294967295 (s.take k) < 4294967296 := sumOf_lt _ (by omega)
      have hnext := sumOf_take s k hlt 4294967295
      rw [← bs_get s k (by rw [bs_size]; exact hlt)] at hnext
      have HNX := Lib.hid hnext
      clear hnext
      generalize sumOf 4294967295 (s.take k) = r at hr HNX
      have hc := ((bs s)[k]'(by rw [bs_size]; exact hlt)).toNat_lt
      have hx : bits .xor .u8 ((r : Int) % 256) (((bs s)[k]'(by rw [bs_size]; exact hlt)).toNat : Int) = ((r % 256 ^^^ ((bs s)[k]'(by rw [bs_size]; exact hlt)).toNat : Nat) : Int) := by
        rw [show (r : Int) % 256 = ((r % 256 : Nat) : Int) by omega, u8_xor_nat _ _ (by omega) hc]
      have hx2 : r % 256 ^^^ ((bs s)[k]'(by rw [bs_size]; exact hlt)).toNat < 256 := Nat.xor_lt_two_pow (n := 8) (by omega) hc
      have HV : Hid (sumStep r ((bs s)[k]'(by rw [bs_size]; exact hlt)).toNat = r / 256 ^^^ h8 (r % 256 ^^^ ((bs s)[k]'(by rw [bs_size]; exact hlt)).toNat)) := rfl
      generalize r % 256 ^^^ ((bs s)[k]'(by rw [bs_size]; exact hlt)).toNat = x at hx hx2 HV
      have cx : w2.cell? ⟨T, x, none⟩ = some (.int .u32 (h8 x : Nat)) := (cell_blk HT.out x).trans (tabC_at hx2)
      have hy : bits .xor .u32 ((r : Int) / 256) ((h8 x : Nat) : Int) = ((r / 256 ^^^ h8 x : Nat) : Int) := by
        rw [show (r : Int) / 256 = ((r / 256 : Nat) : Int) by omega, u32_xor_nat _ _ (by omega) (h8_lt (by omega))]
      have hr' : (r : Int) ≤ 4294967295 := by omega
      clear hr hc
      go_wp2_with fail
      go_round
      case rel => exact ⟨k + 1, by omega, by go_num, by rw [HNX.out, HV.out]⟩
      case measure => simp [intOf]; omega
    · obtain rfl : k = s.length := by omega
      have hr : sumOf 4294967295 s < 4294967296 := sumOf_lt _ (by omega)
      have HR := Lib.hid hr
      have hr' : ((sumOf 4294967295 s : Nat) : Int) ≤ 4294967295 := by omega
      rw [List.take_length]
      clear hr
      go_wp2_with fail
      go_ret
      refine ⟨ret_u32 ?_, HB.out⟩
      rw [show (4294967295 : Int) = ((4294967295 : Nat) : Int) by rfl, u32_xor_nat _ _ HR.out (by omega)]
      rfl
end Go.Proofs.Ytkoajibjlcnjgaa
