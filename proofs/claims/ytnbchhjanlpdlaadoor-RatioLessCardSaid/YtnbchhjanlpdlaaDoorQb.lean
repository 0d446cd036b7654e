/-
  WALKS: plimsollref02: Floor, Rate, Check, Text; ratio.Text and ratio.Rate in all ways.
-/
import Derived.Test.YtnbchhjanlpdlaaDoorQa
import Derived.Test.YtnbchhjanlpdlaaDoorRx
import Derived.Test.YtnbchhjanlpdlaaDoorRText
namespace Go.Proofs.YtnbchhjanlpdlaaDoor
open Go Go.RowKit

set_option maxHeartbeats 4000000 in
set_option maxRecDepth 100000 in
theorem rfloor_zero (n d : U) (hd : d.n = 0) (w : World) :
    Calls Tryd.prog 30 #[.agg #[.int .u64 (hiZ n), .int .u64 (loZ n), .int .u64 (hiZ d), .int .u64 (loZ d)]] w fun e w' => e = .returned (.tuple #[.agg #[.int .u64 0, .int .u64 0], .int .i64 2]) ∧ Below w.heap.size w w' := by
  obtain ⟨z0, z1⟩ := (zero_iff d).2 hd
  rw [z0, z1]
  clear z0 z1 hd
  go_enter Tryd.func30, Tryd.ntmps30
  go_wp2_with fail
  refine bodyPost_ret (v := .tuple #[.agg #[.int .u64 0, .int .u64 0], .int .i64 2]) (by simp [results, Tryd.results30, go_sem]) rfl ?_
  exact ⟨rfl, by go_grown⟩

set_option maxHeartbeats 4000000 in
set_option maxRecDepth 100000 in
theorem rfloor (n d : U) (hd : d.n ≠ 0) (w : World) :
    Calls Tryd.prog 30 #[.agg #[.int .u64 (hiZ n), .int .u64 (loZ n), .int .u64 (hiZ d), .int .u64 (loZ d)]] w fun e w' => e = .returned (.tuple #[.agg #[.int .u64 (hiZ (divW n d)), .int .u64 (loZ (divW n d))], .int .i64 0]) ∧ Below w.heap.size w w' := by
  have he := eql_no (x := hiZ d) (y := loZ d) (x' := 0) (y' := 0) (fun h => hd ((zero_iff d).1 h))
  have HD := Lib.hid hd
  clear hd
  go_enter Tryd.func30, Tryd.ntmps30
  go_upto_region 1 with fail
  obtain ⟨w0, hw0⟩ : ∃ x, x = ((w.alloc (.cells #[.int .u64 (hiZ (n)), .int .u64 (loZ (n)), .int .u64 (hiZ (d)), .int .u64 (loZ (d))] 41)).alloc (.cells #[.int .u64 0, .int .u64 0] 24)) := ⟨_, rfl⟩
  obtain ⟨p0, hp0⟩ : ∃ x, x = w.heap.size := ⟨_, rfl⟩
  obtain ⟨p1, hp1⟩ : ∃ x, x = w.heap.size + 1 := ⟨_, rfl⟩
  have G0 : Hid (Bags [(p0, #[.int .u64 (hiZ (n)), .int .u64 (loZ (n)), .int .u64 (hiZ (d)), .int .u64 (loZ (d))], 41), (p1, #[.int .u64 0, .int .u64 0], 24)] w0) := by rw [hw0]; exact (((Bags.nil w).push hp0 _ _).push (by simp [hp1]) _ _)
  have U0 : Hid (Below w.heap.size w w0) := by rw [hw0]; exact (show Below w.heap.size w _ by go_grown)
  have LE : Hid (w.heap.size ≤ p0 ∧ w.heap.size ≤ p1) := by refine ⟨?_, ?_⟩ <;> omega
  have ne01 : p0 ≠ p1 := by omega
  rw [← hw0, ← hp1, ← hp0]
  clear hw0 hp0 hp1
  have c0_0_0 := Bags.cell (v := .int .u64 (hiZ (n))) G0.out (i := 0) rfl 0 rfl
  have c0_1_0 := Bags.cell (v := .int .u64 (loZ (n))) G0.out (i := 0) rfl 1 rfl
  have c0_2_0 := Bags.cell (v := .int .u64 (hiZ (d))) G0.out (i := 0) rfl 2 rfl
  have c0_3_0 := Bags.cell (v := .int .u64 (loZ (d))) G0.out (i := 0) rfl 3 rfl
  have l0_0 := Bags.lt G0.out (i := 0) rfl
  go_wp2_with fail
  refine (rwhole_at n d HD.out _).mono ?_
  rintro e w1 ⟨rfl, hb1⟩
  have G1 : Hid (Bags [(p0, #[.int .u64 (hiZ (n)), .int .u64 (loZ (n)), .int .u64 (hiZ (d)), .int .u64 (loZ (d))], 41), (p1, #[.int .u64 0, .int .u64 0], 24)] w1) := Bags.keep G0.out hb1
  have U1 : Hid (Below w.heap.size w w1) := below_of U0.out hb1
  clear hb1 c0_0_0 c0_1_0 c0_2_0 c0_3_0 l0_0
  have c1_0_1 := Bags.cell (v := .int .u64 0) G1.out (i := 1) rfl 0 rfl
  have c1_1_1 := Bags.cell (v := .int .u64 0) G1.out (i := 1) rfl 1 rfl
  have l1_1 := Bags.lt G1.out (i := 1) rfl
  have f1_0_1 := Bags.free G1.out (i := 1) rfl 0
  have f1_1_1 := Bags.free G1.out (i := 1) rfl 1
  have X2 := Lib.hid ((((G1.out.blk2 (i := 1) rfl).set (hiZ (divW n d)) (loZ (divW n d))).alloc (.cells #[.int .u64 (hiZ (divW n d)), .int .u64 (loZ (divW n d))] 24)).alloc (.cells #[.int .u64 (hiZ (modW n d)), .int .u64 (loZ (modW n d))] 24))
  go_wp2_with fail
  have y0 := X2.out.c0
  have y1 := X2.out.c1
  refine bodyPost_ret (v := .tuple #[.agg #[.int .u64 (hiZ (divW n d)), .int .u64 (loZ (divW n d))], .int .i64 0]) (by simp [results, Tryd.results30, go_sem, y0, y1]) rfl ?_
  have h := U1.out
  have hz := h.size
  have hle := LE.out.2
  exact ⟨rfl, by go_grown⟩

theorem rrate_red (a : U) (k : Nat) (hk0 : 0 < k) (hk : k < 18446744073709551616) (w : World) :
    Calls Tryd.prog 26 #[.agg #[.int .u64 (hiZ (timesU a 1000)), .int .u64 (loZ (timesU a 1000))], .agg #[.int .u64 0, .int .u64 k]] w fun e w' =>
      e = .returned (.tuple #[.agg #[.int .u64 (hiZ (rateN a k)), .int .u64 (loZ (rateN a k)), .int .u64 (hiZ (rateD a k)), .int .u64 (loZ (rateD a k))], .int .i64 0]) ∧ Below w.heap.size w w' :=
  rreduce_at (n := timesU a 1000) (d := cutU k) (hi_small hk).symm (lo_small hk).symm (by rw [n_small hk]; omega) w
set_option maxHeartbeats 4000000 in
set_option maxRecDepth 100000 in
theorem rrate_zero (a : U) (w : World) :
    Calls Tryd.prog 28 #[.agg #[.int .u64 (hiZ a), .int .u64 (loZ a)], .int .u64 0] w fun e w' =>
      e = .returned (.tuple #[.agg #[.int .u64 0, .int .u64 0, .int .u64 0, .int .u64 0], .int .i64 12]) ∧ Below w.heap.size w w' := by
  go_enter Tryd.func28, Tryd.ntmps28
  go_wp2_with fail
  refine bodyPost_ret (v := .tuple #[.agg #[.int .u64 0, .int .u64 0, .int .u64 0, .int .u64 0], .int .i64 12]) (by simp [results, Tryd.results28, go_sem]) rfl ?_
  exact ⟨rfl, by go_grown⟩

set_option maxHeartbeats 4000000 in
set_option maxRecDepth 100000 in
theorem rrate_over (a : U) (k : Nat) (hk0 : 0 < k) (hk : k < 18446744073709551616) (hm : 340282366920938463463374607431768211456 ≤ a.n * 1000) (w : World) :
    Calls Tryd.prog 28 #[.agg #[.int .u64 (hiZ a), .int .u64 (loZ a)], .int .u64 k] w fun e w' =>
      e = .returned (.tuple #[.agg #[.int .u64 0, .int .u64 0, .int .u64 0, .int .u64 0], .int .i64 1]) ∧ Below w.heap.size w w' := by
  have hk1 : ((k : Int) == 0) = false := by simp; omega
  have hk2 : (k : Int) ≤ 18446744073709551615 := by omega
  have hE : timesE a 1000 = 1 := cutE_ge hm
  have HU := Lib.hid (show timesU a 1000 = U.zero from cutU_ge hm)
  clear hm
  go_enter Tryd.func28, Tryd.ntmps28
  go_upto_region 1 with fail
  obtain ⟨w0, hw0⟩ : ∃ x, x = ((w.alloc (.cells #[.int .u64 (hiZ (a)), .int .u64 (loZ (a))] 24)).alloc (.cells #[.int .u64 0, .int .u64 0, .int .u64 0, .int .u64 0] 41)) := ⟨_, rfl⟩
  obtain ⟨p0, hp0⟩ : ∃ x, x = w.heap.size := ⟨_, rfl⟩
  obtain ⟨p1, hp1⟩ : ∃ x, x = w.heap.size + 1 := ⟨_, rfl⟩
  have G0 : Hid (Bags [(p0, #[.int .u64 (hiZ (a)), .int .u64 (loZ (a))], 24), (p1, #[.int .u64 0, .int .u64 0, .int .u64 0, .int .u64 0], 41)] w0) := by rw [hw0]; exact (((Bags.nil w).push hp0 _ _).push (by simp [hp1]) _ _)
  have U0 : Hid (Below w.heap.size w w0) := by rw [hw0]; exact (show Below w.heap.size w _ by go_grown)
  have LE : Hid (w.heap.size ≤ p0 ∧ w.heap.size ≤ p1) := by refine ⟨?_, ?_⟩ <;> omega
  have ne01 : p0 ≠ p1 := by omega
  rw [← hw0, ← hp1, ← hp0]
  clear hw0 hp0 hp1
  have c0_0_0 := Bags.cell (v := .int .u64 (hiZ (a))) G0.out (i := 0) rfl 0 rfl
  have c0_1_0 := Bags.cell (v := .int .u64 (loZ (a))) G0.out (i := 0) rfl 1 rfl
  have l0_0 := Bags.lt G0.out (i := 0) rfl
  go_wp2_with fail
  refine (rtimes a 1000 (by omega) _).mono ?_
  rintro e w1 ⟨rfl, hb1⟩
  have G1 : Hid (Bags [(p0, #[.int .u64 (hiZ (a)), .int .u64 (loZ (a))], 24), (p1, #[.int .u64 0, .int .u64 0, .int .u64 0, .int .u64 0], 41)] w1) := Bags.keep G0.out hb1
  have U1 : Hid (Below w.heap.size w w1) := below_of U0.out hb1
  clear hb1 c0_0_0 c0_1_0 l0_0
  have c1_0_1 := Bags.cell (v := .int .u64 0) G1.out (i := 1) rfl 0 rfl
  have c1_1_1 := Bags.cell (v := .int .u64 0) G1.out (i := 1) rfl 1 rfl
  have c1_2_1 := Bags.cell (v := .int .u64 0) G1.out (i := 1) rfl 2 rfl
  have c1_3_1 := Bags.cell (v := .int .u64 0) G1.out (i := 1) rfl 3 rfl
  have l1_1 := Bags.lt G1.out (i := 1) rfl
  have f1_0_1 := Bags.free G1.out (i := 1) rfl 0
  have f1_1_1 := Bags.free G1.out (i := 1) rfl 1
  have f1_2_1 := Bags.free G1.out (i := 1) rfl 2
  have f1_3_1 := Bags.free G1.out (i := 1) rfl 3
  have X2 := Lib.hid (((G1.out.blk4 (i := 1) rfl).set 0 0 0 0).alloc (.cells #[.int .u64 (hiZ (timesU a 1000)), .int .u64 (loZ (timesU a 1000))] 24))
  go_wp2_with fail
  have y0 := X2.out.c0
  have y1 := X2.out.c1
  have y2 := X2.out.c2
  have y3 := X2.out.c3
  refine bodyPost_ret (v := .tuple #[.agg #[.int .u64 0, .int .u64 0, .int .u64 0, .int .u64 0], .int .i64 1]) (by simp [results, Tryd.results28, go_sem, y0, y1, y2, y3]) rfl ?_
  have h := U1.out
  have hz := h.size
  have hle := LE.out.2
  exact ⟨rfl, by go_grown⟩

set_option maxHeartbeats 4000000 in
set_option maxRecDepth 100000 in
theorem rrate (a : U) (k : Nat) (hk0 : 0 < k) (hk : k < 18446744073709551616) (hm : a.n * 1000 < 340282366920938463463374607431768211456) (w : World) :
    Calls Tryd.prog 28 #[.agg #[.int .u64 (hiZ a), .int .u64 (loZ a)], .int .u64 k] w fun e w' =>
      e = .returned (.tuple #[.agg #[.int .u64 (hiZ (rateN a k)), .int .u64 (loZ (rateN a k)), .int .u64 (hiZ (rateD a k)), .int .u64 (loZ (rateD a k))], .int .i64 0]) ∧ Below w.heap.size w w' := by
  have hk1 : ((k : Int) == 0) = false := by simp; omega
  have hk2 : (k : Int) ≤ 18446744073709551615 := by omega
  have hE : timesE a 1000 = 0 := cutE_lt hm
  clear hm
  go_enter Tryd.func28, Tryd.ntmps28
  go_upto_region 1 with fail
  obtain ⟨w0, hw0⟩ : ∃ x, x = ((w.alloc (.cells #[.int .u64 (hiZ (a)), .int .u64 (loZ (a))] 24)).alloc (.cells #[.int .u64 0, .int .u64 0, .int .u64 0, .int .u64 0] 41)) := ⟨_, rfl⟩
  obtain ⟨p0, hp0⟩ : ∃ x, x = w.heap.size := ⟨_, rfl⟩
  obtain ⟨p1, hp1⟩ : ∃ x, x = w.heap.size + 1 := ⟨_, rfl⟩
  have G0 : Hid (Bags [(p0, #[.int .u64 (hiZ (a)), .int .u64 (loZ (a))], 24), (p1, #[.int .u64 0, .int .u64 0, .int .u64 0, .int .u64 0], 41)] w0) := by rw [hw0]; exact (((Bags.nil w).push hp0 _ _).push (by simp [hp1]) _ _)
  have U0 : Hid (Below w.heap.size w w0) := by rw [hw0]; exact (show Below w.heap.size w _ by go_grown)
  have LE : Hid (w.heap.size ≤ p0 ∧ w.heap.size ≤ p1) := by refine ⟨?_, ?_⟩ <;> omega
  have ne01 : p0 ≠ p1 := by omega
  rw [← hw0, ← hp1, ← hp0]
  clear hw0 hp0 hp1
  have c0_0_0 := Bags.cell (v := .int .u64 (hiZ (a))) G0.out (i := 0) rfl 0 rfl
  have c0_1_0 := Bags.cell (v := .int .u64 (loZ (a))) G0.out (i := 0) rfl 1 rfl
  have l0_0 := Bags.lt G0.out (i := 0) rfl
  go_wp2_with fail
  refine (rtimes a 1000 (by omega) _).mono ?_
  rintro e w1 ⟨rfl, hb1⟩
  have G1 : Hid (Bags [(p0, #[.int .u64 (hiZ (a)), .int .u64 (loZ (a))], 24), (p1, #[.int .u64 0, .int .u64 0, .int .u64 0, .int .u64 0], 41)] w1) := Bags.keep G0.out hb1
  have U1 : Hid (Below w.heap.size w w1) := below_of U0.out hb1
  clear hb1 c0_0_0 c0_1_0 l0_0
  have c1_0_1 := Bags.cell (v := .int .u64 0) G1.out (i := 1) rfl 0 rfl
  have c1_1_1 := Bags.cell (v := .int .u64 0) G1.out (i := 1) rfl 1 rfl
  have c1_2_1 := Bags.cell (v := .int .u64 0) G1.out (i := 1) rfl 2 rfl
  have c1_3_1 := Bags.cell (v := .int .u64 0) G1.out (i := 1) rfl 3 rfl
  have l1_1 := Bags.lt G1.out (i := 1) rfl
  go_wp2_with fail
  refine (rrate_red a k hk0 hk _).mono ?_
  rintro e w2 ⟨rfl, hb2⟩
  have G2 : Hid (Bags [(p0, #[.int .u64 (hiZ (a)), .int .u64 (loZ (a))], 24), (p1, #[.int .u64 0, .int .u64 0, .int .u64 0, .int .u64 0], 41), (w1.heap.size, #[.int .u64 (hiZ (timesU a 1000)), .int .u64 (loZ (timesU a 1000))], 24)] w2) := Bags.keep (G1.out.push rfl _ _) hb2
  have U2 : Hid (Below w.heap.size w w2) := below_of (by have h := U1.out; have hz := h.size; go_grown) hb2
  clear hb2 c1_0_1 c1_1_1 c1_2_1 c1_3_1 l1_1
  have c1_0_2 := Bags.cell (v := .int .u64 0) G2.out (i := 1) rfl 0 rfl
  have c1_1_2 := Bags.cell (v := .int .u64 0) G2.out (i := 1) rfl 1 rfl
  have c1_2_2 := Bags.cell (v := .int .u64 0) G2.out (i := 1) rfl 2 rfl
  have c1_3_2 := Bags.cell (v := .int .u64 0) G2.out (i := 1) rfl 3 rfl
  have l1_2 := Bags.lt G2.out (i := 1) rfl
  have f1_0_2 := Bags.free G2.out (i := 1) rfl 0
  have f1_1_2 := Bags.free G2.out (i := 1) rfl 1
  have f1_2_2 := Bags.free G2.out (i := 1) rfl 2
  have f1_3_2 := Bags.free G2.out (i := 1) rfl 3
  have X2 := Lib.hid ((G2.out.blk4 (i := 1) rfl).set (hiZ (rateN a k)) (loZ (rateN a k)) (hiZ (rateD a k)) (loZ (rateD a k)))
  go_wp2_with fail
  have y0 := X2.out.c0
  have y1 := X2.out.c1
  have y2 := X2.out.c2
  have y3 := X2.out.c3
  refine bodyPost_ret (v := .tuple #[.agg #[.int .u64 (hiZ (rateN a k)), .int .u64 (loZ (rateN a k)), .int .u64 (hiZ (rateD a k)), .int .u64 (loZ (rateD a k))], .int .i64 0]) (by simp [results, Tryd.results28, go_sem, y0, y1, y2, y3]) rfl ?_
  have h := U2.out
  have hz := h.size
  have hle := LE.out.2
  exact ⟨rfl, by go_grown⟩

set_option maxHeartbeats 4000000 in
set_option maxRecDepth 100000 in
theorem rtextF (n d : U) (w : World) :
    Calls Tryd.prog 37 #[.agg #[.int .u64 (hiZ n), .int .u64 (loZ n), .int .u64 (hiZ d), .int .u64 (loZ d)]] w fun e w' => e = .returned (.string ⟨(Lib.decDigits n.n ++ [47] ++ Lib.decDigits d.n).toArray⟩) ∧ Below w.heap.size w w' := by
  have hl1 : (Lib.decDigits n.n).length ≤ 39 := by rw [Lib.decDigits_length]; exact nd_le39 _
  have hl2 : (Lib.decDigits d.n).length ≤ 39 := by rw [Lib.decDigits_length]; exact nd_le39 _
  obtain ⟨l, hl⟩ : ∃ l, l = Lib.decDigits n.n := ⟨_, rfl⟩
  obtain ⟨m, hm⟩ : ∃ m, m = Lib.decDigits d.n := ⟨_, rfl⟩
  rw [← hl] at hl1
  rw [← hm] at hl2
  have hc1 : ¬ 9223372036854775807 < l.length + 1 := by omega
  have hc2 : ¬ 9223372036854775807 < l.length + 1 + m.length := by omega
  have HL := Lib.hid hl
  have HM := Lib.hid hm
  clear hl hm hl1 hl2
  rw [← HL.out, ← HM.out]
  go_enter Tryd.func37, Tryd.ntmps37
  go_upto_region 1 with fail
  obtain ⟨w0, hw0⟩ : ∃ x, x = w.alloc (.cells #[.int .u64 (hiZ n), .int .u64 (loZ n), .int .u64 (hiZ d), .int .u64 (loZ d)] 41) := ⟨_, rfl⟩
  rw [← hw0]
  obtain ⟨g, hg⟩ : ∃ x, x = w.heap.size := ⟨_, rfl⟩
  have K0 : Blk4 w0.drew g (hiZ n) (loZ n) (hiZ d) (loZ d) := by rw [hw0]; exact (Blk4.new_at _ _ hg).drew
  have B0 : Below w.heap.size w w0.drew := by rw [hw0]; exact (show Below w.heap.size w _ by go_grown).drew
  rw [← hg]
  clear hw0 hg
  have e0 := K0.c0
  have e1 := K0.c1
  have e2 := K0.c2
  have e3 := K0.c3
  go_region_held3 (fun w' => w'.cell? ⟨g, 0, none⟩ = some (.int .u64 (hiZ n)) ∧ w'.cell? ⟨g, 1, none⟩ = some (.int .u64 (loZ n)) ∧ w'.cell? ⟨g, 2, none⟩ = some (.int .u64 (hiZ d)) ∧ w'.cell? ⟨g, 3, none⟩ = some (.int .u64 (loZ d))) (exact ⟨by assumption, by assumption, by assumption, by assumption⟩) ((first
    | (go_at_call_of 24 (Value.agg #[.int .u64 (hiZ n), .int .u64 (loZ n)]); refine (rtext (n.n + 1) n _ (by omega)).mono ?_; rw [← HL.out]; rintro e wx ⟨rfl, hbx⟩; have kx := Blk4.keep (by assumption) hbx; have ux : Below w.heap.size w wx := below_of (by assumption) hbx; clear hbx; have f0 := kx.c0; have f1 := kx.c1; have f2 := kx.c2; have f3 := kx.c3)
    | (go_at_call_of 24 (Value.agg #[.int .u64 (hiZ d), .int .u64 (loZ d)]); refine (rtext (d.n + 1) d _ (by omega)).mono ?_; rw [← HM.out]; rintro e wx ⟨rfl, hbx⟩; have kx := Blk4.keep (by assumption) hbx; have ux : Below w.heap.size w wx := below_of (by assumption) hbx; clear hbx; have f0 := kx.c0; have f1 := kx.c1; have f2 := kx.c2; have f3 := kx.c3)))
  all_goals
    go_wp2_with fail
    go_ret
    refine ⟨?_, by assumption⟩
    simp [ByteArray.mk_append_mk]

set_option maxHeartbeats 4000000 in
set_option maxRecDepth 100000 in
theorem textF (n d : U) (w : World) (htab : tabs w) :
    Calls Tryd.prog 36 #[.agg #[.int .u64 (hiZ n), .int .u64 (loZ n), .int .u64 (hiZ d), .int .u64 (loZ d)]] w fun e w' => e = .returned (.string ⟨(Lib.decDigits n.n ++ [47] ++ Lib.decDigits d.n).toArray⟩) ∧ Below w.heap.size w w' := by
  have HT := Lib.hid htab
  clear htab
  have hl1 : (Lib.decDigits n.n).length ≤ 39 := by rw [Lib.decDigits_length]; exact nd_le39 _
  have hl2 : (Lib.decDigits d.n).length ≤ 39 := by rw [Lib.decDigits_length]; exact nd_le39 _
  obtain ⟨l, hl⟩ : ∃ l, l = Lib.decDigits n.n := ⟨_, rfl⟩
  obtain ⟨m, hm⟩ : ∃ m, m = Lib.decDigits d.n := ⟨_, rfl⟩
  rw [← hl] at hl1
  rw [← hm] at hl2
  have hc1 : ¬ 9223372036854775807 < l.length + 1 := by omega
  have hc2 : ¬ 9223372036854775807 < l.length + 1 + m.length := by omega
  have HL := Lib.hid hl
  have HM := Lib.hid hm
  clear hl hm hl1 hl2
  rw [← HL.out, ← HM.out]
  go_enter Tryd.func36, Tryd.ntmps36
  go_upto_region 1 with fail
  obtain ⟨w0, hw0⟩ : ∃ x, x = w.alloc (.cells #[.int .u64 (hiZ n), .int .u64 (loZ n), .int .u64 (hiZ d), .int .u64 (loZ d)] 41) := ⟨_, rfl⟩
  rw [← hw0]
  obtain ⟨g, hg⟩ : ∃ x, x = w.heap.size := ⟨_, rfl⟩
  have K0 : Blk4 w0.drew g (hiZ n) (loZ n) (hiZ d) (loZ d) := by rw [hw0]; exact (Blk4.new_at _ _ hg).drew
  have B0 : Below w.heap.size w w0.drew := by rw [hw0]; exact (show Below w.heap.size w _ by go_grown).drew
  rw [← hg]
  clear hw0 hg
  have e0 := K0.c0
  have e1 := K0.c1
  have e2 := K0.c2
  have e3 := K0.c3
  go_region_held3 (fun w' => w'.cell? ⟨g, 0, none⟩ = some (.int .u64 (hiZ n)) ∧ w'.cell? ⟨g, 1, none⟩ = some (.int .u64 (loZ n)) ∧ w'.cell? ⟨g, 2, none⟩ = some (.int .u64 (hiZ d)) ∧ w'.cell? ⟨g, 3, none⟩ = some (.int .u64 (loZ d))) (exact ⟨by assumption, by assumption, by assumption, by assumption⟩) ((first
    | (go_at_call_of 23 (Value.agg #[.int .u64 (hiZ n), .int .u64 (loZ n)]); refine (text_of n _ (tabs_stays HT.out (by assumption))).mono ?_; rw [← HL.out]; rintro e wx ⟨rfl, hbx⟩; have kx := Blk4.keep (by assumption) hbx; have ux : Below w.heap.size w wx := below_of (by assumption) hbx; clear hbx; have f0 := kx.c0; have f1 := kx.c1; have f2 := kx.c2; have f3 := kx.c3)
    | (go_at_call_of 23 (Value.agg #[.int .u64 (hiZ d), .int .u64 (loZ d)]); refine (text_of d _ (tabs_stays HT.out (by assumption))).mono ?_; rw [← HM.out]; rintro e wx ⟨rfl, hbx⟩; have kx := Blk4.keep (by assumption) hbx; have ux : Below w.heap.size w wx := below_of (by assumption) hbx; clear hbx; have f0 := kx.c0; have f1 := kx.c1; have f2 := kx.c2; have f3 := kx.c3)))
  all_goals
    go_wp2_with fail
    go_ret
    refine ⟨?_, by assumption⟩
    simp [ByteArray.mk_append_mk]

end Go.Proofs.YtnbchhjanlpdlaaDoor
