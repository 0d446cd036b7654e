/-
  WALKS: the document's answer for layer 3 (plimsollref03): the reader's Int.
-/
import Derived.Test.YtkoajibjlcnjgaaVu
namespace Go.Proofs.Ytkoajibjlcnjgaa
open Go Go.RowKit

theorem VS.setA {w wr : World} {g1 : Nat} {s : List UInt8} {bad : Bool} (h : VS w wr g1 s bad) (hne : w.heap.size ≠ g1) (s' : List UInt8) (bad' : Bool) :
    VS w ((wr.setCell ⟨w.heap.size, 0, none⟩ (.string (bs s'))).setCell ⟨w.heap.size, 1, none⟩ (.bool bad')) g1 s' bad' := by
  refine ⟨(h.b.setCell (p := ⟨w.heap.size, 0, none⟩) (Nat.le_refl _) _).setCell (p := ⟨w.heap.size, 1, none⟩) (Nat.le_refl _) _, ?_, ?_⟩
  · rw [set_blk (set_blk h.a _) _]; rfl
  · rw [set_other _ (Ne.symm hne), set_other _ (Ne.symm hne), h.c]

set_option maxHeartbeats 2000000 in
set_option maxRecDepth 100000 in
theorem vint_of {s s' : List UInt8} {bad bad' : Bool} {n : Nat} (hn : n < 18446744073709551616)
    (hc : ∀ w : World, Calls Try.prog 36 #[.agg #[.string (bs s), .bool bad]] w fun e w' => e = .returned (.tuple #[.agg #[.string (bs s'), .bool bad'], .int .u64 n]) ∧ Below w.heap.size w w') (w : World) :
    Calls Try.prog 37 #[.agg #[.string (bs s), .bool bad]] w fun e w' => e = .returned (.tuple #[.agg #[.string (bs s'), .bool bad'], .int .i64 (unzz n)]) ∧ Below w.heap.size w w' := by
  have hn1 : (n : Int) ≤ 18446744073709551615 := by omega
  have HN := Lib.hid hn
  clear hn
  by_cases hp : n % 2 = 1
  · have t1 : ((n : Int) % 2 == 1) = true := by simp; omega
    have HP := Lib.hid hp
    clear hp
    go_enter Try.func37, Try.ntmps37
    go_upto_region 1 with fail
    obtain ⟨w0, hw0⟩ : ∃ w0, w0 = ((w.alloc (Obj.cells #[Value.string (bs s), Value.bool bad] 43)).alloc (Obj.cells #[Value.string { data := #[] }, Value.bool false] 43)) := ⟨_, rfl⟩
    rw [← hw0]
    obtain ⟨g1, hg1⟩ : ∃ g, g = w.heap.size + 1 := ⟨_, rfl⟩
    have HV := Lib.hid (vs_start hw0 hg1)
    rw [← hg1]
    have hne : w.heap.size ≠ g1 := by omega
    have hle : w.heap.size ≤ g1 := by omega
    clear hw0 hg1
    have c0 := HV.out.c0
    have c1 := HV.out.c1
    have f0 := free_blk HV.out.c 0
    have f1 := free_blk HV.out.c 1
    have d0 := HV.out.d0
    have d1 := HV.out.d1
    have e0 := free_blk HV.out.a 0
    have e1 := free_blk HV.out.a 1
    go_wp2_with fail
    refine (hc _).mono ?_
    rintro e w1 ⟨rfl, hb⟩
    have HV1 := Lib.hid (HV.out.keep hb)
    clear c0 c1 f0 f1 d0 d1 e0 e1 hb HV
    have c0 := HV1.out.c0
    have c1 := HV1.out.c1
    have f0 := free_blk HV1.out.c 0
    have f1 := free_blk HV1.out.c 1
    have d0 := HV1.out.d0
    have d1 := HV1.out.d1
    have e0 := free_blk HV1.out.a 0
    have e1 := free_blk HV1.out.a 1
    go_upto_region 2 with fail
    obtain ⟨w2, hw2⟩ : ∃ w2, w2 = ((w1.setCell ⟨w.heap.size, 0, none⟩ (.string (bs s'))).setCell ⟨w.heap.size, 1, none⟩ (.bool bad')) := ⟨_, rfl⟩
    rw [← hw2]
    have HV2 := Lib.hid (HV1.out.setA hne s' bad')
    rw [← hw2] at HV2
    clear c0 c1 f0 f1 d0 d1 e0 e1 HV1 hw2
    have c0 := HV2.out.c0
    have c1 := HV2.out.c1
    have f0 := free_blk HV2.out.c 0
    have f1 := free_blk HV2.out.c 1
    have d0 := HV2.out.d0
    have d1 := HV2.out.d1
    have e0 := free_blk HV2.out.a 0
    have e1 := free_blk HV2.out.a 1
    go_wp2_with fail
    refine bodyPost_ret (v := .tuple #[.agg #[.string (bs s'), .bool bad'], .int .i64 (unzz n)]) (by simp [results, Try.results37, go_sem, fin0 HV2.out.c, fin1 HV2.out.c]; unfold unzz; rw [if_pos HP.out]; omega) rfl ?_
    exact ⟨rfl, HV2.out.end hle _ _⟩
  · have t1 : ((n : Int) % 2 == 1) = false := by simp; omega
    have HP := Lib.hid hp
    clear hp
    go_enter Try.func37, Try.ntmps37
    go_upto_region 1 with fail
    obtain ⟨w0, hw0⟩ : ∃ w0, w0 = ((w.alloc (Obj.cells #[Value.string (bs s), Value.bool bad] 43)).alloc (Obj.cells #[Value.string { data := #[] }, Value.bool false] 43)) := ⟨_, rfl⟩
    rw [← hw0]
    obtain ⟨g1, hg1⟩ : ∃ g, g = w.heap.size + 1 := ⟨_, rfl⟩
    have HV := Lib.hid (vs_start hw0 hg1)
    rw [← hg1]
    have hne : w.heap.size ≠ g1 := by omega
    have hle : w.heap.size ≤ g1 := by omega
    clear hw0 hg1
    have c0 := HV.out.c0
    have c1 := HV.out.c1
    have f0 := free_blk HV.out.c 0
    have f1 := free_blk HV.out.c 1
    have d0 := HV.out.d0
    have d1 := HV.out.d1
    have e0 := free_blk HV.out.a 0
    have e1 := free_blk HV.out.a 1
    go_wp2_with fail
    refine (hc _).mono ?_
    rintro e w1 ⟨rfl, hb⟩
    have HV1 := Lib.hid (HV.out.keep hb)
    clear c0 c1 f0 f1 d0 d1 e0 e1 hb HV
    have c0 := HV1.out.c0
    have c1 := HV1.out.c1
    have f0 := free_blk HV1.out.c 0
    have f1 := free_blk HV1.out.c 1
    have d0 := HV1.out.d0
    have d1 := HV1.out.d1
    have e0 := free_blk HV1.out.a 0
    have e1 := free_blk HV1.out.a 1
    go_upto_region 2 with fail
    obtain ⟨w2, hw2⟩ : ∃ w2, w2 = ((w1.setCell ⟨w.heap.size, 0, none⟩ (.string (bs s'))).setCell ⟨w.heap.size, 1, none⟩ (.bool bad')) := ⟨_, rfl⟩
    rw [← hw2]
    have HV2 := Lib.hid (HV1.out.setA hne s' bad')
    rw [← hw2] at HV2
    clear c0 c1 f0 f1 d0 d1 e0 e1 HV1 hw2
    have c0 := HV2.out.c0
    have c1 := HV2.out.c1
    have f0 := free_blk HV2.out.c 0
    have f1 := free_blk HV2.out.c 1
    have d0 := HV2.out.d0
    have d1 := HV2.out.d1
    have e0 := free_blk HV2.out.a 0
    have e1 := free_blk HV2.out.a 1
    go_wp2_with fail
    refine bodyPost_ret (v := .tuple #[.agg #[.string (bs s'), .bool bad'], .int .i64 (unzz n)]) (by simp [results, Try.results37, go_sem, fin0 HV2.out.c, fin1 HV2.out.c]; unfold unzz; rw [if_neg HP.out]; omega) rfl ?_
    exact ⟨rfl, HV2.out.end hle _ _⟩

/-! ### Uint and Int, in each way. -/
theorem vuint_none {s : List UInt8} (er : rd 0 0 s = none) (hs : s.length ≤ 140737488355328) (w : World) :
    Calls Try.prog 36 #[.agg #[.string (bs s), .bool false]] w fun e w' => e = .returned (.tuple #[.agg #[.string (bs []), .bool true], .int .u64 0]) ∧ Below w.heap.size w w' := by
  refine (vuint_go s hs w).mono ?_
  rintro e w' (⟨_, h, hb⟩ | ⟨n, k, h, _⟩)
  · exact ⟨h, hb⟩
  · rw [er] at h; cases h
theorem vuint_some {s : List UInt8} {n k : Nat} (er : rd 0 0 s = some (n, k)) (hs : s.length ≤ 140737488355328) (w : World) :
    Calls Try.prog 36 #[.agg #[.string (bs s), .bool false]] w fun e w' => e = .returned (.tuple #[.agg #[.string (bs (s.drop k)), .bool false], .int .u64 n]) ∧ Below w.heap.size w w' := by
  refine (vuint_go s hs w).mono ?_
  rintro e w' (⟨h, _⟩ | ⟨n', k', h, he, hb⟩)
  · rw [er] at h; cases h
  · rw [er] at h; cases h; exact ⟨he, hb⟩
theorem vint_none {s : List UInt8} (er : rd 0 0 s = none) (hs : s.length ≤ 140737488355328) (w : World) :
    Calls Try.prog 37 #[.agg #[.string (bs s), .bool false]] w fun e w' => e = .returned (.tuple #[.agg #[.string (bs []), .bool true], .int .i64 0]) ∧ Below w.heap.size w w' :=
  vint_of (n := 0) (by omega) (fun w => vuint_none er hs w) w
theorem vint_some {s : List UInt8} {n k : Nat} (er : rd 0 0 s = some (n, k)) (hs : s.length ≤ 140737488355328) (w : World) :
    Calls Try.prog 37 #[.agg #[.string (bs s), .bool false]] w fun e w' => e = .returned (.tuple #[.agg #[.string (bs (s.drop k)), .bool false], .int .i64 (unzz n)]) ∧ Below w.heap.size w w' :=
  vint_of (rd_one er).2.1 (fun w => vuint_some er hs w) w
theorem vint_bad (w : World) :
    Calls Try.prog 37 #[.agg #[.string (bs []), .bool true]] w fun e w' => e = .returned (.tuple #[.agg #[.string (bs []), .bool true], .int .i64 0]) ∧ Below w.heap.size w w' :=
  vint_of (n := 0) (by omega) (fun w => vuint_bad w) w
end Go.Proofs.Ytkoajibjlcnjgaa
