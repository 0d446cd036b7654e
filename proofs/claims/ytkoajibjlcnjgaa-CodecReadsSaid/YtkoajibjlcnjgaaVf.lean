/-
  WALKS: the document's answer for layer 3 (plimsollref03): the reader's Fixed.
-/
import Derived.Test.YtkoajibjlcnjgaaVt
namespace Go.Proofs.Ytkoajibjlcnjgaa
open Go Go.RowKit

set_option maxHeartbeats 2000000 in
set_option maxRecDepth 100000 in
theorem vfixed_no (s : List UInt8) (bad : Bool) (m : Int) (hm : m < 1 ∨ 8 < m) (w : World) :
    Calls Try.prog 38 #[.agg #[.string (bs s), .bool bad], .int .i64 m] w fun e w' => e = .returned (.tuple #[.agg #[.string (bs []), .bool true], .int .u64 0]) ∧ Below w.heap.size w w' := by
  by_cases h1 : m < 1
  · clear hm
    go_enter Try.func38, Try.ntmps38
    go_upto_region 1 with fail
    obtain ⟨w0, hw0⟩ : ∃ w0, w0 = ((w.alloc (Obj.cells #[Value.string (bs s), Value.bool bad] 43)).alloc (Obj.cells #[Value.string { data := #[] }, Value.bool false] 43)) := ⟨_, rfl⟩
    rw [← hw0]
    obtain ⟨g1, hg1⟩ : ∃ g, g = w.heap.size + 1 := ⟨_, rfl⟩
    have HV := Lib.hid (vs_start hw0 hg1)
    rw [← hg1]
    have hne : w.heap.size ≠ g1 := by omega
    have hle : w.heap.size ≤ g1 := by omega
    clear hw0 hg1
    have c0 := HV.out.c0
    have c1 := HV.out.c1
    have f0 := free_blk HV.out.c 0
    have f1 := free_blk HV.out.c 1
    have d0 := HV.out.d0
    have d1 := HV.out.d1
    have e0 := free_blk HV.out.a 0
    have e1 := free_blk HV.out.a 1
    go_wp2_with fail
    refine bodyPost_ret (v := .tuple #[.agg #[.string (bs []), .bool true], .int .u64 0]) (by simp [results, Try.results38, go_sem, fin0 HV.out.c, fin1 HV.out.c]; rfl) rfl ?_
    exact ⟨rfl, HV.out.end hle _ _⟩
  · have h2 : 8 < m := by omega
    have d1' : decide (m < 1) = false := by simp; omega
    clear hm
    go_enter Try.func38, Try.ntmps38
    go_upto_region 1 with fail
    obtain ⟨w0, hw0⟩ : ∃ w0, w0 = ((w.alloc (Obj.cells #[Value.string (bs s), Value.bool bad] 43)).alloc (Obj.cells #[Value.string { data := #[] }, Value.bool false] 43)) := ⟨_, rfl⟩
    rw [← hw0]
    obtain ⟨g1, hg1⟩ : ∃ g, g = w.heap.size + 1 := ⟨_, rfl⟩
    have HV := Lib.hid (vs_start hw0 hg1)
    rw [← hg1]
    have hne : w.heap.size ≠ g1 := by omega
    have hle : w.heap.size ≤ g1 := by omega
    clear hw0 hg1
    have c0 := HV.out.c0
    have c1 := HV.out.c1
    have f0 := free_blk HV.out.c 0
    have f1 := free_blk HV.out.c 1
    have d0 := HV.out.d0
    have d1 := HV.out.d1
    have e0 := free_blk HV.out.a 0
    have e1 := free_blk HV.out.a 1
    go_wp2_with fail
    refine bodyPost_ret (v := .tuple #[.agg #[.string (bs []), .bool true], .int .u64 0]) (by simp [results, Try.results38, go_sem, fin0 HV.out.c, fin1 HV.out.c]; rfl) rfl ?_
    exact ⟨rfl, HV.out.end hle _ _⟩

theorem vfx_step {t : List UInt8} {k : Nat} (h : k < t.length) (h8 : t.length ≤ 8) :
    IntKind.u64.wrap (IntKind.u64.wrap (256 * (bev (t.take k) : Int)) + IntKind.u64.wrap (t[k].toNat : Int)) = ((bev (t.take (k + 1)) : Nat) : Int) := by
  have hb := (bev_take_lt t k (by omega) h8).1
  have h7 : 256 ^ k ≤ 256 ^ 7 := Nat.pow_le_pow_right (by omega) (by omega)
  have hc := t[k].toNat_lt
  rw [bev_take t k h, IntKind.wrap_u64, IntKind.wrap_u64, IntKind.wrap_u64]
  omega

set_option maxHeartbeats 2000000 in
set_option maxRecDepth 100000 in
theorem vfixed_of {s s' t : List UInt8} {bad bad' : Bool} (m : Nat) (h1m : 1 ≤ m) (hm8 : m ≤ 8) (ht : t.length ≤ 8)
    (hc : ∀ w : World, Calls Try.prog 40 #[.agg #[.string (bs s), .bool bad], .int .i64 m] w fun e w' => e = .returned (.tuple #[.agg #[.string (bs s'), .bool bad'], .string (bs t)]) ∧ Below w.heap.size w w') (w : World) :
    Calls Try.prog 38 #[.agg #[.string (bs s), .bool bad], .int .i64 m] w fun e w' => e = .returned (.tuple #[.agg #[.string (bs s'), .bool bad'], .int .u64 (bev t : Nat)]) ∧ Below w.heap.size w w' := by
  have q1 : decide ((m : Int) < 1) = false := by simp; omega
  have q2 : decide ((8 : Int) < m) = false := by simp; omega
  have hz := bs_size t
  have ht' : (t.length : Int) ≤ 8 := by omega
  go_enter Try.func38, Try.ntmps38
  go_upto_region 1 with fail
  obtain ⟨w0, hw0⟩ : ∃ w0, w0 = ((w.alloc (Obj.cells #[Value.string (bs s), Value.bool bad] 43)).alloc (Obj.cells #[Value.string { data := #[] }, Value.bool false] 43)) := ⟨_, rfl⟩
  rw [← hw0]
  obtain ⟨g1, hg1⟩ : ∃ g, g = w.heap.size + 1 := ⟨_, rfl⟩
  have HV := Lib.hid (vs_start hw0 hg1)
  rw [← hg1]
  have hne : w.heap.size ≠ g1 := by omega
  have hle : w.heap.size ≤ g1 := by omega
  clear hw0 hg1
  have c0 := HV.out.c0
  have c1 := HV.out.c1
  have f0 := free_blk HV.out.c 0
  have f1 := free_blk HV.out.c 1
  have d0 := HV.out.d0
  have d1 := HV.out.d1
  have e0 := free_blk HV.out.a 0
  have e1 := free_blk HV.out.a 1
  go_wp2_with fail
  refine (hc _).mono ?_
  rintro e w1 ⟨rfl, hb⟩
  have HV1 := Lib.hid (HV.out.keep hb)
  clear c0 c1 f0 f1 d0 d1 e0 e1 hb HV
  have c0 := HV1.out.c0
  have c1 := HV1.out.c1
  have f0 := free_blk HV1.out.c 0
  have f1 := free_blk HV1.out.c 1
  have d0 := HV1.out.d0
  have d1 := HV1.out.d1
  have e0 := free_blk HV1.out.a 0
  have e1 := free_blk HV1.out.a 1
  go_upto_region 4 with fail
  obtain ⟨w2, hw2⟩ : ∃ w2, w2 = ((w1.setCell ⟨w.heap.size, 0, none⟩ (.string (bs s'))).setCell ⟨w.heap.size, 1, none⟩ (.bool bad')) := ⟨_, rfl⟩
  rw [← hw2]
  have HV2 := Lib.hid (HV1.out.setA hne s' bad')
  rw [← hw2] at HV2
  clear c0 c1 f0 f1 d0 d1 e0 e1 HV1 hw2
  have c0 := HV2.out.c0
  have c1 := HV2.out.c1
  have f0 := free_blk HV2.out.c 0
  have f1 := free_blk HV2.out.c 1
  have d0 := HV2.out.d0
  have d1 := HV2.out.d1
  have e0 := free_blk HV2.out.a 0
  have e1 := free_blk HV2.out.a 1
  go_wp2_with fail
  go_loop [7, 8] (fun n i => ∃ k : Nat, k ≤ t.length ∧ i = .int .i64 k ∧ n = .int .u64 (bev (t.take k) : Nat)) (fun _ i => t.length - (intOf i).toNat)
  case atStart => exact ⟨0, by omega, rfl, rfl⟩
  case round =>
    obtain ⟨k, hk, rfl, rfl⟩ := hrel
    have hb := bev_take_lt t k hk ht
    by_cases hlt : k < t.length
    · go_wp2
      go_round
      case rel =>
        refine ⟨k + 1, by omega, by go_num, int_u64 ?_⟩
        rw [bs_get t k (by rw [bs_size]; exact hlt)]
        exact vfx_step hlt ht
      case measure => simp [intOf]; omega
    · go_wp2
      refine bodyPost_ret (v := .tuple #[.agg #[.string (bs s'), .bool bad'], .int .u64 (bev t : Nat)]) (by simp [results, Try.results38, go_sem, fin0 HV2.out.c, fin1 HV2.out.c]; rw [List.take_of_length_le (by omega)]) rfl ?_
      exact ⟨rfl, HV2.out.end hle _ _⟩
end Go.Proofs.Ytkoajibjlcnjgaa
