/-
  WALKS: the document's answer for layer 3 (plimsollref03): the reader's Text.
-/
import Derived.Test.YtkoajibjlcnjgaaVi
namespace Go.Proofs.Ytkoajibjlcnjgaa
open Go Go.RowKit

set_option maxHeartbeats 2000000 in
set_option maxRecDepth 100000 in
theorem vtext_of_bad {s s' : List UInt8} {bad : Bool} (m : Int) (hc : ∀ w : World, Calls Try.prog 36 #[.agg #[.string (bs s), .bool bad]] w fun e w' => e = .returned (.tuple #[.agg #[.string (bs s'), .bool true], .int .u64 0]) ∧ Below w.heap.size w w') (w : World) :
    Calls Try.prog 39 #[.agg #[.string (bs s), .bool bad], .int .i64 m] w fun e w' => e = .returned (.tuple #[.agg #[.string (bs []), .bool true], .string (bs [])]) ∧ Below w.heap.size w w' := by
  go_enter Try.func39, Try.ntmps39
  go_upto_region 1 with fail
  obtain ⟨w0, hw0⟩ : ∃ w0, w0 = ((w.alloc (Obj.cells #[Value.string (bs s), Value.bool bad] 43)).alloc (Obj.cells #[Value.string { data := #[] }, Value.bool false] 43)) := ⟨_, rfl⟩
  rw [← hw0]
  obtain ⟨g1, hg1⟩ : ∃ g, g = w.heap.size + 1 := ⟨_, rfl⟩
  have HV := Lib.hid (vs_start hw0 hg1)
  rw [← hg1]
  have hne : w.heap.size ≠ g1 := by omega
  have hle : w.heap.size ≤ g1 := by omega
  clear hw0 hg1
  have c0 := HV.out.c0
  have c1 := HV.out.c1
  have f0 := free_blk HV.out.c 0
  have f1 := free_blk HV.out.c 1
  have d0 := HV.out.d0
  have d1 := HV.out.d1
  have e0 := free_blk HV.out.a 0
  have e1 := free_blk HV.out.a 1
  go_wp2_with fail
  refine (hc _).mono ?_
  rintro e w1 ⟨rfl, hb⟩
  have HV1 := Lib.hid (HV.out.keep hb)
  clear c0 c1 f0 f1 d0 d1 e0 e1 hb HV
  have c0 := HV1.out.c0
  have c1 := HV1.out.c1
  have f0 := free_blk HV1.out.c 0
  have f1 := free_blk HV1.out.c 1
  have d0 := HV1.out.d0
  have d1 := HV1.out.d1
  have e0 := free_blk HV1.out.a 0
  have e1 := free_blk HV1.out.a 1
  go_upto_region 2 with fail
  obtain ⟨w2, hw2⟩ : ∃ w2, w2 = ((w1.setCell ⟨w.heap.size, 0, none⟩ (.string (bs s'))).setCell ⟨w.heap.size, 1, none⟩ (.bool true)) := ⟨_, rfl⟩
  rw [← hw2]
  have HV2 := Lib.hid (HV1.out.setA hne s' true)
  rw [← hw2] at HV2
  clear c0 c1 f0 f1 d0 d1 e0 e1 HV1 hw2
  have c0 := HV2.out.c0
  have c1 := HV2.out.c1
  have f0 := free_blk HV2.out.c 0
  have f1 := free_blk HV2.out.c 1
  have d0 := HV2.out.d0
  have d1 := HV2.out.d1
  have e0 := free_blk HV2.out.a 0
  have e1 := free_blk HV2.out.a 1
  go_wp2_with fail
  refine bodyPost_ret (v := .tuple #[.agg #[.string (bs []), .bool true], .string (bs [])]) (by simp [results, Try.results39, go_sem, fin0 HV2.out.c, fin1 HV2.out.c]; rfl) rfl ?_
  exact ⟨rfl, HV2.out.end hle _ _⟩
set_option maxHeartbeats 2000000 in
set_option maxRecDepth 100000 in
theorem vtext_short {s s' : List UInt8} {bad : Bool} {n : Nat} (m : Int) (hn : n < 18446744073709551616) (hl : s'.length ≤ 140737488355328) (hs : s'.length < n) (hc : ∀ w : World, Calls Try.prog 36 #[.agg #[.string (bs s), .bool bad]] w fun e w' => e = .returned (.tuple #[.agg #[.string (bs s'), .bool false], .int .u64 n]) ∧ Below w.heap.size w w') (w : World) :
    Calls Try.prog 39 #[.agg #[.string (bs s), .bool bad], .int .i64 m] w fun e w' => e = .returned (.tuple #[.agg #[.string (bs []), .bool true], .string (bs [])]) ∧ Below w.heap.size w w' := by
  have hz := bs_size s'
  have hl' : (s'.length : Int) ≤ 140737488355328 := by omega
  have h1 : decide (s'.length < n) = true := by simp; omega
  go_enter Try.func39, Try.ntmps39
  go_upto_region 1 with fail
  obtain ⟨w0, hw0⟩ : ∃ w0, w0 = ((w.alloc (Obj.cells #[Value.string (bs s), Value.bool bad] 43)).alloc (Obj.cells #[Value.string { data := #[] }, Value.bool false] 43)) := ⟨_, rfl⟩
  rw [← hw0]
  obtain ⟨g1, hg1⟩ : ∃ g, g = w.heap.size + 1 := ⟨_, rfl⟩
  have HV := Lib.hid (vs_start hw0 hg1)
  rw [← hg1]
  have hne : w.heap.size ≠ g1 := by omega
  have hle : w.heap.size ≤ g1 := by omega
  clear hw0 hg1
  have c0 := HV.out.c0
  have c1 := HV.out.c1
  have f0 := free_blk HV.out.c 0
  have f1 := free_blk HV.out.c 1
  have d0 := HV.out.d0
  have d1 := HV.out.d1
  have e0 := free_blk HV.out.a 0
  have e1 := free_blk HV.out.a 1
  go_wp2_with fail
  refine (hc _).mono ?_
  rintro e w1 ⟨rfl, hb⟩
  have HV1 := Lib.hid (HV.out.keep hb)
  clear c0 c1 f0 f1 d0 d1 e0 e1 hb HV
  have c0 := HV1.out.c0
  have c1 := HV1.out.c1
  have f0 := free_blk HV1.out.c 0
  have f1 := free_blk HV1.out.c 1
  have d0 := HV1.out.d0
  have d1 := HV1.out.d1
  have e0 := free_blk HV1.out.a 0
  have e1 := free_blk HV1.out.a 1
  go_upto_region 2 with fail
  obtain ⟨w2, hw2⟩ : ∃ w2, w2 = ((w1.setCell ⟨w.heap.size, 0, none⟩ (.string (bs s'))).setCell ⟨w.heap.size, 1, none⟩ (.bool false)) := ⟨_, rfl⟩
  rw [← hw2]
  have HV2 := Lib.hid (HV1.out.setA hne s' false)
  rw [← hw2] at HV2
  clear c0 c1 f0 f1 d0 d1 e0 e1 HV1 hw2
  have c0 := HV2.out.c0
  have c1 := HV2.out.c1
  have f0 := free_blk HV2.out.c 0
  have f1 := free_blk HV2.out.c 1
  have d0 := HV2.out.d0
  have d1 := HV2.out.d1
  have e0 := free_blk HV2.out.a 0
  have e1 := free_blk HV2.out.a 1
  go_wp2_with fail
  refine bodyPost_ret (v := .tuple #[.agg #[.string (bs []), .bool true], .string (bs [])]) (by simp [results, Try.results39, go_sem, fin0 HV2.out.c, fin1 HV2.out.c]; rfl) rfl ?_
  exact ⟨rfl, HV2.out.end hle _ _⟩
set_option maxHeartbeats 2000000 in
set_option maxRecDepth 100000 in
theorem vtext_neg {s s' : List UInt8} {bad : Bool} {n : Nat} (m : Int) (hm : m < 0) (hl : s'.length ≤ 140737488355328) (hs : n ≤ s'.length) (hc : ∀ w : World, Calls Try.prog 36 #[.agg #[.string (bs s), .bool bad]] w fun e w' => e = .returned (.tuple #[.agg #[.string (bs s'), .bool false], .int .u64 n]) ∧ Below w.heap.size w w') (w : World) :
    Calls Try.prog 39 #[.agg #[.string (bs s), .bool bad], .int .i64 m] w fun e w' => e = .returned (.tuple #[.agg #[.string (bs []), .bool true], .string (bs [])]) ∧ Below w.heap.size w w' := by
  have hz := bs_size s'
  have hl' : (s'.length : Int) ≤ 140737488355328 := by omega
  have h1 : decide (s'.length < n) = false := by simp; omega
  go_enter Try.func39, Try.ntmps39
  go_upto_region 1 with fail
  obtain ⟨w0, hw0⟩ : ∃ w0, w0 = ((w.alloc (Obj.cells #[Value.string (bs s), Value.bool bad] 43)).alloc (Obj.cells #[Value.string { data := #[] }, Value.bool false] 43)) := ⟨_, rfl⟩
  rw [← hw0]
  obtain ⟨g1, hg1⟩ : ∃ g, g = w.heap.size + 1 := ⟨_, rfl⟩
  have HV := Lib.hid (vs_start hw0 hg1)
  rw [← hg1]
  have hne : w.heap.size ≠ g1 := by omega
  have hle : w.heap.size ≤ g1 := by omega
  clear hw0 hg1
  have c0 := HV.out.c0
  have c1 := HV.out.c1
  have f0 := free_blk HV.out.c 0
  have f1 := free_blk HV.out.c 1
  have d0 := HV.out.d0
  have d1 := HV.out.d1
  have e0 := free_blk HV.out.a 0
  have e1 := free_blk HV.out.a 1
  go_wp2_with fail
  refine (hc _).mono ?_
  rintro e w1 ⟨rfl, hb⟩
  have HV1 := Lib.hid (HV.out.keep hb)
  clear c0 c1 f0 f1 d0 d1 e0 e1 hb HV
  have c0 := HV1.out.c0
  have c1 := HV1.out.c1
  have f0 := free_blk HV1.out.c 0
  have f1 := free_blk HV1.out.c 1
  have d0 := HV1.out.d0
  have d1 := HV1.out.d1
  have e0 := free_blk HV1.out.a 0
  have e1 := free_blk HV1.out.a 1
  go_upto_region 2 with fail
  obtain ⟨w2, hw2⟩ : ∃ w2, w2 = ((w1.setCell ⟨w.heap.size, 0, none⟩ (.string (bs s'))).setCell ⟨w.heap.size, 1, none⟩ (.bool false)) := ⟨_, rfl⟩
  rw [← hw2]
  have HV2 := Lib.hid (HV1.out.setA hne s' false)
  rw [← hw2] at HV2
  clear c0 c1 f0 f1 d0 d1 e0 e1 HV1 hw2
  have c0 := HV2.out.c0
  have c1 := HV2.out.c1
  have f0 := free_blk HV2.out.c 0
  have f1 := free_blk HV2.out.c 1
  have d0 := HV2.out.d0
  have d1 := HV2.out.d1
  have e0 := free_blk HV2.out.a 0
  have e1 := free_blk HV2.out.a 1
  go_wp2_with fail
  refine bodyPost_ret (v := .tuple #[.agg #[.string (bs []), .bool true], .string (bs [])]) (by simp [results, Try.results39, go_sem, fin0 HV2.out.c, fin1 HV2.out.c]; rfl) rfl ?_
  exact ⟨rfl, HV2.out.end hle _ _⟩
set_option maxHeartbeats 2000000 in
set_option maxRecDepth 100000 in
theorem vtext_more {s s' : List UInt8} {bad : Bool} {n : Nat} (m : Nat) (hm : (m : Int) ≤ 9223372036854775807) (hmn : m < n) (hl : s'.length ≤ 140737488355328) (hs : n ≤ s'.length) (hc : ∀ w : World, Calls Try.prog 36 #[.agg #[.string (bs s), .bool bad]] w fun e w' => e = .returned (.tuple #[.agg #[.string (bs s'), .bool false], .int .u64 n]) ∧ Below w.heap.size w w') (w : World) :
    Calls Try.prog 39 #[.agg #[.string (bs s), .bool bad], .int .i64 m] w fun e w' => e = .returned (.tuple #[.agg #[.string (bs []), .bool true], .string (bs [])]) ∧ Below w.heap.size w w' := by
  have hz := bs_size s'
  have hl' : (s'.length : Int) ≤ 140737488355328 := by omega
  have h1 : decide (s'.length < n) = false := by simp; omega
  have h2 : decide ((m : Int) < 0) = false := by simp
  have h3 : decide (m < n) = true := by simp; omega
  go_enter Try.func39, Try.ntmps39
  go_upto_region 1 with fail
  obtain ⟨w0, hw0⟩ : ∃ w0, w0 = ((w.alloc (Obj.cells #[Value.string (bs s), Value.bool bad] 43)).alloc (Obj.cells #[Value.string { data := #[] }, Value.bool false] 43)) := ⟨_, rfl⟩
  rw [← hw0]
  obtain ⟨g1, hg1⟩ : ∃ g, g = w.heap.size + 1 := ⟨_, rfl⟩
  have HV := Lib.hid (vs_start hw0 hg1)
  rw [← hg1]
  have hne : w.heap.size ≠ g1 := by omega
  have hle : w.heap.size ≤ g1 := by omega
  clear hw0 hg1
  have c0 := HV.out.c0
  have c1 := HV.out.c1
  have f0 := free_blk HV.out.c 0
  have f1 := free_blk HV.out.c 1
  have d0 := HV.out.d0
  have d1 := HV.out.d1
  have e0 := free_blk HV.out.a 0
  have e1 := free_blk HV.out.a 1
  go_wp2_with fail
  refine (hc _).mono ?_
  rintro e w1 ⟨rfl, hb⟩
  have HV1 := Lib.hid (HV.out.keep hb)
  clear c0 c1 f0 f1 d0 d1 e0 e1 hb HV
  have c0 := HV1.out.c0
  have c1 := HV1.out.c1
  have f0 := free_blk HV1.out.c 0
  have f1 := free_blk HV1.out.c 1
  have d0 := HV1.out.d0
  have d1 := HV1.out.d1
  have e0 := free_blk HV1.out.a 0
  have e1 := free_blk HV1.out.a 1
  go_upto_region 2 with fail
  obtain ⟨w2, hw2⟩ : ∃ w2, w2 = ((w1.setCell ⟨w.heap.size, 0, none⟩ (.string (bs s'))).setCell ⟨w.heap.size, 1, none⟩ (.bool false)) := ⟨_, rfl⟩
  rw [← hw2]
  have HV2 := Lib.hid (HV1.out.setA hne s' false)
  rw [← hw2] at HV2
  clear c0 c1 f0 f1 d0 d1 e0 e1 HV1 hw2
  have c0 := HV2.out.c0
  have c1 := HV2.out.c1
  have f0 := free_blk HV2.out.c 0
  have f1 := free_blk HV2.out.c 1
  have d0 := HV2.out.d0
  have d1 := HV2.out.d1
  have e0 := free_blk HV2.out.a 0
  have e1 := free_blk HV2.out.a 1
  go_wp2_with fail
  refine bodyPost_ret (v := .tuple #[.agg #[.string (bs []), .bool true], .string (bs [])]) (by simp [results, Try.results39, go_sem, fin0 HV2.out.c, fin1 HV2.out.c]; rfl) rfl ?_
  exact ⟨rfl, HV2.out.end hle _ _⟩
set_option maxHeartbeats 2000000 in
set_option maxRecDepth 100000 in
theorem vtext_good {s s' : List UInt8} {bad : Bool} {n : Nat} (m : Nat) (hm : (m : Int) ≤ 9223372036854775807) (hmn : n ≤ m) (hl : s'.length ≤ 140737488355328) (hs : n ≤ s'.length) (hc : ∀ w : World, Calls Try.prog 36 #[.agg #[.string (bs s), .bool bad]] w fun e w' => e = .returned (.tuple #[.agg #[.string (bs s'), .bool false], .int .u64 n]) ∧ Below w.heap.size w w') (w : World) :
    Calls Try.prog 39 #[.agg #[.string (bs s), .bool bad], .int .i64 m] w fun e w' => e = .returned (.tuple #[.agg #[.string (bs (s'.drop n)), .bool false], .string (bs (s'.take n))]) ∧ Below w.heap.size w w' := by
  have hz := bs_size s'
  have hl' : (s'.length : Int) ≤ 140737488355328 := by omega
  have hnl : (n : Int) ≤ 140737488355328 := by omega
  have h1 : decide (s'.length < n) = false := by simp; omega
  have h2 : decide ((m : Int) < 0) = false := by simp
  have h3 : decide (m < n) = false := by simp; omega
  go_enter Try.func39, Try.ntmps39
  go_upto_region 1 with fail
  obtain ⟨w0, hw0⟩ : ∃ w0, w0 = ((w.alloc (Obj.cells #[Value.string (bs s), Value.bool bad] 43)).alloc (Obj.cells #[Value.string { data := #[] }, Value.bool false] 43)) := ⟨_, rfl⟩
  rw [← hw0]
  obtain ⟨g1, hg1⟩ : ∃ g, g = w.heap.size + 1 := ⟨_, rfl⟩
  have HV := Lib.hid (vs_start hw0 hg1)
  rw [← hg1]
  have hne : w.heap.size ≠ g1 := by omega
  have hle : w.heap.size ≤ g1 := by omega
  clear hw0 hg1
  have c0 := HV.out.c0
  have c1 := HV.out.c1
  have f0 := free_blk HV.out.c 0
  have f1 := free_blk HV.out.c 1
  have d0 := HV.out.d0
  have d1 := HV.out.d1
  have e0 := free_blk HV.out.a 0
  have e1 := free_blk HV.out.a 1
  go_wp2_with fail
  refine (hc _).mono ?_
  rintro e w1 ⟨rfl, hb⟩
  have HV1 := Lib.hid (HV.out.keep hb)
  clear c0 c1 f0 f1 d0 d1 e0 e1 hb HV
  have c0 := HV1.out.c0
  have c1 := HV1.out.c1
  have f0 := free_blk HV1.out.c 0
  have f1 := free_blk HV1.out.c 1
  have d0 := HV1.out.d0
  have d1 := HV1.out.d1
  have e0 := free_blk HV1.out.a 0
  have e1 := free_blk HV1.out.a 1
  go_upto_region 2 with fail
  obtain ⟨w2, hw2⟩ : ∃ w2, w2 = ((w1.setCell ⟨w.heap.size, 0, none⟩ (.string (bs s'))).setCell ⟨w.heap.size, 1, none⟩ (.bool false)) := ⟨_, rfl⟩
  rw [← hw2]
  have HV2 := Lib.hid (HV1.out.setA hne s' false)
  rw [← hw2] at HV2
  clear c0 c1 f0 f1 d0 d1 e0 e1 HV1 hw2
  have c0 := HV2.out.c0
  have c1 := HV2.out.c1
  have f0 := free_blk HV2.out.c 0
  have f1 := free_blk HV2.out.c 1
  have d0 := HV2.out.d0
  have d1 := HV2.out.d1
  have e0 := free_blk HV2.out.a 0
  have e1 := free_blk HV2.out.a 1
  go_wp2_with fail
  refine (vraw_ok s' n hs hl _).mono ?_
  rintro e w3 ⟨rfl, hb⟩
  have HV3 := Lib.hid (HV2.out.keep hb)
  clear c0 c1 f0 f1 d0 d1 e0 e1 hb HV2
  have c0 := HV3.out.c0
  have c1 := HV3.out.c1
  have f0 := free_blk HV3.out.c 0
  have f1 := free_blk HV3.out.c 1
  have d0 := HV3.out.d0
  have d1 := HV3.out.d1
  have e0 := free_blk HV3.out.a 0
  have e1 := free_blk HV3.out.a 1
  go_wp2_with fail
  refine bodyPost_ret (v := .tuple #[.agg #[.string (bs (s'.drop n)), .bool false], .string (bs (s'.take n))]) (by simp [results, Try.results39, go_sem, fin0 HV3.out.c, fin1 HV3.out.c]) rfl ?_
  exact ⟨rfl, HV3.out.end hle _ _⟩
end Go.Proofs.Ytkoajibjlcnjgaa
