/-
  THE LAW plimsolllaw02.RatioLess: which of two fractions is less is what the document says: the walk: it answers true, of any two fractions.
-/
import Derived.Test.YtnbchhjanlpdlaaDoorQl
import Derived.Test.YtnbchhjanlpdlaaDoorLives2
namespace Go.Proofs.YtnbchhjanlpdlaaDoor
open Go Go.RowKit

set_option maxHeartbeats 4000000 in
set_option maxRecDepth 100000 in
theorem rfless_bad1 (a b c d : U) (h1 : redB a b = false) (w : World) (hone : OneW w) :
    Calls Tryd.prog 39 #[.agg #[.int .u64 (hiZ a), .int .u64 (loZ a), .int .u64 (hiZ b), .int .u64 (loZ b)], .agg #[.int .u64 (hiZ c), .int .u64 (loZ c), .int .u64 (hiZ d), .int .u64 (loZ d)]] w fun e w' =>
      e = .returned (.tuple #[.bool (lessFB a b c d), .int .i64 (lessFE a b c d)]) ∧ Below w.heap.size w w' := by
  have HO := Lib.hid hone
  clear hone
  have k1 := check_no h1
  have HV := Lib.hid (lessF_bad (c := c) (d := d) (Or.inl h1))
  clear h1
  go_enter Tryd.func39, Tryd.ntmps39
  go_upto_region 1 with fail
  obtain ⟨w0, hw0⟩ : ∃ x, x = ((w.alloc (.cells #[.int .u64 (hiZ (a)), .int .u64 (loZ (a)), .int .u64 (hiZ (b)), .int .u64 (loZ (b))] 41)).alloc (.cells #[.int .u64 (hiZ (c)), .int .u64 (loZ (c)), .int .u64 (hiZ (d)), .int .u64 (loZ (d))] 41)) := ⟨_, rfl⟩
  obtain ⟨p0, hp0⟩ : ∃ x, x = w.heap.size := ⟨_, rfl⟩
  obtain ⟨p1, hp1⟩ : ∃ x, x = w.heap.size + 1 := ⟨_, rfl⟩
  have G0 : Hid (Bags [(p0, #[.int .u64 (hiZ (a)), .int .u64 (loZ (a)), .int .u64 (hiZ (b)), .int .u64 (loZ (b))], 41), (p1, #[.int .u64 (hiZ (c)), .int .u64 (loZ (c)), .int .u64 (hiZ (d)), .int .u64 (loZ (d))], 41)] w0) := by rw [hw0]; exact (((Bags.nil w).push hp0 _ _).push (by simp [hp1]) _ _)
  have U0 : Hid (Below w.heap.size w w0) := by rw [hw0]; exact (show Below w.heap.size w _ by go_grown)
  have LE : Hid (w.heap.size ≤ p0 ∧ w.heap.size ≤ p1) := by refine ⟨?_, ?_⟩ <;> omega
  have ne01 : p0 ≠ p1 := by omega
  rw [← hw0, ← hp1, ← hp0]
  clear hw0 hp0 hp1
  have c0_0_0 := Bags.cell (v := .int .u64 (hiZ (a))) G0.out (i := 0) rfl 0 rfl
  have c0_1_0 := Bags.cell (v := .int .u64 (loZ (a))) G0.out (i := 0) rfl 1 rfl
  have c0_2_0 := Bags.cell (v := .int .u64 (hiZ (b))) G0.out (i := 0) rfl 2 rfl
  have c0_3_0 := Bags.cell (v := .int .u64 (loZ (b))) G0.out (i := 0) rfl 3 rfl
  have l0_0 := Bags.lt G0.out (i := 0) rfl
  go_wp2_with fail
  refine (rcheck a b _ (HO.out.keep U0.out)).mono ?_
  rintro e w1 ⟨rfl, hb1⟩
  have G1 : Hid (Bags [(p0, #[.int .u64 (hiZ (a)), .int .u64 (loZ (a)), .int .u64 (hiZ (b)), .int .u64 (loZ (b))], 41), (p1, #[.int .u64 (hiZ (c)), .int .u64 (loZ (c)), .int .u64 (hiZ (d)), .int .u64 (loZ (d))], 41)] w1) := Bags.keep G0.out hb1
  have U1 : Hid (Below w.heap.size w w1) := below_of U0.out hb1
  clear hb1 c0_0_0 c0_1_0 c0_2_0 c0_3_0 l0_0
  go_wp2_with fail
  go_ret2
  exact ⟨be_eq HV.out.1.symm HV.out.2.symm, U1.out⟩

set_option maxHeartbeats 4000000 in
set_option maxRecDepth 100000 in
theorem rfless_bad2 (a b c d : U) (h1 : redB a b = true) (h2 : redB c d = false) (w : World) (hone : OneW w) :
    Calls Tryd.prog 39 #[.agg #[.int .u64 (hiZ a), .int .u64 (loZ a), .int .u64 (hiZ b), .int .u64 (loZ b)], .agg #[.int .u64 (hiZ c), .int .u64 (loZ c), .int .u64 (hiZ d), .int .u64 (loZ d)]] w fun e w' =>
      e = .returned (.tuple #[.bool (lessFB a b c d), .int .i64 (lessFE a b c d)]) ∧ Below w.heap.size w w' := by
  have HO := Lib.hid hone
  clear hone
  have k1 := check_yes h1
  have k2 := check_no h2
  have HV := Lib.hid (lessF_bad (a := a) (b := b) (Or.inr h2))
  clear h1 h2
  go_enter Tryd.func39, Tryd.ntmps39
  go_upto_region 1 with fail
  obtain ⟨w0, hw0⟩ : ∃ x, x = ((w.alloc (.cells #[.int .u64 (hiZ (a)), .int .u64 (loZ (a)), .int .u64 (hiZ (b)), .int .u64 (loZ (b))] 41)).alloc (.cells #[.int .u64 (hiZ (c)), .int .u64 (loZ (c)), .int .u64 (hiZ (d)), .int .u64 (loZ (d))] 41)) := ⟨_, rfl⟩
  obtain ⟨p0, hp0⟩ : ∃ x, x = w.heap.size := ⟨_, rfl⟩
  obtain ⟨p1, hp1⟩ : ∃ x, x = w.heap.size + 1 := ⟨_, rfl⟩
  have G0 : Hid (Bags [(p0, #[.int .u64 (hiZ (a)), .int .u64 (loZ (a)), .int .u64 (hiZ (b)), .int .u64 (loZ (b))], 41), (p1, #[.int .u64 (hiZ (c)), .int .u64 (loZ (c)), .int .u64 (hiZ (d)), .int .u64 (loZ (d))], 41)] w0) := by rw [hw0]; exact (((Bags.nil w).push hp0 _ _).push (by simp [hp1]) _ _)
  have U0 : Hid (Below w.heap.size w w0) := by rw [hw0]; exact (show Below w.heap.size w _ by go_grown)
  have LE : Hid (w.heap.size ≤ p0 ∧ w.heap.size ≤ p1) := by refine ⟨?_, ?_⟩ <;> omega
  have ne01 : p0 ≠ p1 := by omega
  rw [← hw0, ← hp1, ← hp0]
  clear hw0 hp0 hp1
  have c0_0_0 := Bags.cell (v := .int .u64 (hiZ (a))) G0.out (i := 0) rfl 0 rfl
  have c0_1_0 := Bags.cell (v := .int .u64 (loZ (a))) G0.out (i := 0) rfl 1 rfl
  have c0_2_0 := Bags.cell (v := .int .u64 (hiZ (b))) G0.out (i := 0) rfl 2 rfl
  have c0_3_0 := Bags.cell (v := .int .u64 (loZ (b))) G0.out (i := 0) rfl 3 rfl
  have l0_0 := Bags.lt G0.out (i := 0) rfl
  go_wp2_with fail
  refine (rcheck a b _ (HO.out.keep U0.out)).mono ?_
  rintro e w1 ⟨rfl, hb1⟩
  have G1 : Hid (Bags [(p0, #[.int .u64 (hiZ (a)), .int .u64 (loZ (a)), .int .u64 (hiZ (b)), .int .u64 (loZ (b))], 41), (p1, #[.int .u64 (hiZ (c)), .int .u64 (loZ (c)), .int .u64 (hiZ (d)), .int .u64 (loZ (d))], 41)] w1) := Bags.keep G0.out hb1
  have U1 : Hid (Below w.heap.size w w1) := below_of U0.out hb1
  clear hb1 c0_0_0 c0_1_0 c0_2_0 c0_3_0 l0_0
  have c1_0_1 := Bags.cell (v := .int .u64 (hiZ (c))) G1.out (i := 1) rfl 0 rfl
  have c1_1_1 := Bags.cell (v := .int .u64 (loZ (c))) G1.out (i := 1) rfl 1 rfl
  have c1_2_1 := Bags.cell (v := .int .u64 (hiZ (d))) G1.out (i := 1) rfl 2 rfl
  have c1_3_1 := Bags.cell (v := .int .u64 (loZ (d))) G1.out (i := 1) rfl 3 rfl
  have l1_1 := Bags.lt G1.out (i := 1) rfl
  go_wp2_with fail
  refine (rcheck c d _ (HO.out.keep U1.out)).mono ?_
  rintro e w2 ⟨rfl, hb2⟩
  have G2 : Hid (Bags [(p0, #[.int .u64 (hiZ (a)), .int .u64 (loZ (a)), .int .u64 (hiZ (b)), .int .u64 (loZ (b))], 41), (p1, #[.int .u64 (hiZ (c)), .int .u64 (loZ (c)), .int .u64 (hiZ (d)), .int .u64 (loZ (d))], 41)] w2) := Bags.keep G1.out hb2
  have U2 : Hid (Below w.heap.size w w2) := below_of U1.out hb2
  clear hb2 c1_0_1 c1_1_1 c1_2_1 c1_3_1 l1_1
  go_wp2_with fail
  go_ret2
  exact ⟨be_eq HV.out.1.symm HV.out.2.symm, U2.out⟩

theorem rfless (a b c d : U) (w : World) (hone : OneW w) :
    Calls Tryd.prog 39 #[.agg #[.int .u64 (hiZ a), .int .u64 (loZ a), .int .u64 (hiZ b), .int .u64 (loZ b)], .agg #[.int .u64 (hiZ c), .int .u64 (loZ c), .int .u64 (hiZ d), .int .u64 (loZ d)]] w fun e w' =>
      e = .returned (.tuple #[.bool (lessFB a b c d), .int .i64 (lessFE a b c d)]) ∧ Below w.heap.size w w' := by
  cases h1 : redB a b with
  | false => exact rfless_bad1 a b c d h1 w hone
  | true =>
    cases h2 : redB c d with
    | false => exact rfless_bad2 a b c d h1 h2 w hone
    | true => exact rfless_good a b c d h1 h2 w hone

set_option maxHeartbeats 4000000 in
set_option maxRecDepth 100000 in
theorem rlessl_walk (a b c d : U) (w : World) (htab : tabs w) (hone : OneW w) :
    Calls Tryd.prog 6 #[.agg #[.int .u64 (hiZ a), .int .u64 (loZ a), .int .u64 (hiZ b), .int .u64 (loZ b)], .agg #[.int .u64 (hiZ c), .int .u64 (loZ c), .int .u64 (hiZ d), .int .u64 (loZ d)]] w fun e w' => e = .returned (.bool true) ∧ Below w.heap.size w w' := by
  have HT := Lib.hid htab
  have HO := Lib.hid hone
  clear htab hone
  go_enter Tryd.func6, Tryd.ntmps6
  go_upto_region 1 with fail
  obtain ⟨w0, hw0⟩ : ∃ x, x = ((w.alloc (.cells #[.int .u64 (hiZ (a)), .int .u64 (loZ (a)), .int .u64 (hiZ (b)), .int .u64 (loZ (b))] 41)).alloc (.cells #[.int .u64 (hiZ (c)), .int .u64 (loZ (c)), .int .u64 (hiZ (d)), .int .u64 (loZ (d))] 41)) := ⟨_, rfl⟩
  obtain ⟨p0, hp0⟩ : ∃ x, x = w.heap.size := ⟨_, rfl⟩
  obtain ⟨p1, hp1⟩ : ∃ x, x = w.heap.size + 1 := ⟨_, rfl⟩
  have G0 : Hid (Bags [(p0, #[.int .u64 (hiZ (a)), .int .u64 (loZ (a)), .int .u64 (hiZ (b)), .int .u64 (loZ (b))], 41), (p1, #[.int .u64 (hiZ (c)), .int .u64 (loZ (c)), .int .u64 (hiZ (d)), .int .u64 (loZ (d))], 41)] w0) := by rw [hw0]; exact (((Bags.nil w).push hp0 _ _).push (by simp [hp1]) _ _)
  have U0 : Hid (Below w.heap.size w w0) := by rw [hw0]; exact (show Below w.heap.size w _ by go_grown)
  have LE : Hid (w.heap.size ≤ p0 ∧ w.heap.size ≤ p1) := by refine ⟨?_, ?_⟩ <;> omega
  have ne01 : p0 ≠ p1 := by omega
  rw [← hw0, ← hp1, ← hp0]
  clear hw0 hp0 hp1
  have c0_0_0 := Bags.cell (v := .int .u64 (hiZ (a))) G0.out (i := 0) rfl 0 rfl
  have c0_1_0 := Bags.cell (v := .int .u64 (loZ (a))) G0.out (i := 0) rfl 1 rfl
  have c0_2_0 := Bags.cell (v := .int .u64 (hiZ (b))) G0.out (i := 0) rfl 2 rfl
  have c0_3_0 := Bags.cell (v := .int .u64 (loZ (b))) G0.out (i := 0) rfl 3 rfl
  have l0_0 := Bags.lt G0.out (i := 0) rfl
  have c1_0_0 := Bags.cell (v := .int .u64 (hiZ (c))) G0.out (i := 1) rfl 0 rfl
  have c1_1_0 := Bags.cell (v := .int .u64 (loZ (c))) G0.out (i := 1) rfl 1 rfl
  have c1_2_0 := Bags.cell (v := .int .u64 (hiZ (d))) G0.out (i := 1) rfl 2 rfl
  have c1_3_0 := Bags.cell (v := .int .u64 (loZ (d))) G0.out (i := 1) rfl 3 rfl
  have l1_0 := Bags.lt G0.out (i := 1) rfl
  go_wp2_with fail
  refine (rless_any a b c d _).mono ?_
  rintro e w1 ⟨rfl, hb1⟩
  have G1 : Hid (Bags [(p0, #[.int .u64 (hiZ (a)), .int .u64 (loZ (a)), .int .u64 (hiZ (b)), .int .u64 (loZ (b))], 41), (p1, #[.int .u64 (hiZ (c)), .int .u64 (loZ (c)), .int .u64 (hiZ (d)), .int .u64 (loZ (d))], 41)] w1) := Bags.keep G0.out hb1
  have U1 : Hid (Below w.heap.size w w1) := below_of U0.out hb1
  clear hb1 c0_0_0 c0_1_0 c0_2_0 c0_3_0 l0_0 c1_0_0 c1_1_0 c1_2_0 c1_3_0 l1_0
  have c0_0_1 := Bags.cell (v := .int .u64 (hiZ (a))) G1.out (i := 0) rfl 0 rfl
  have c0_1_1 := Bags.cell (v := .int .u64 (loZ (a))) G1.out (i := 0) rfl 1 rfl
  have c0_2_1 := Bags.cell (v := .int .u64 (hiZ (b))) G1.out (i := 0) rfl 2 rfl
  have c0_3_1 := Bags.cell (v := .int .u64 (loZ (b))) G1.out (i := 0) rfl 3 rfl
  have l0_1 := Bags.lt G1.out (i := 0) rfl
  have c1_0_1 := Bags.cell (v := .int .u64 (hiZ (c))) G1.out (i := 1) rfl 0 rfl
  have c1_1_1 := Bags.cell (v := .int .u64 (loZ (c))) G1.out (i := 1) rfl 1 rfl
  have c1_2_1 := Bags.cell (v := .int .u64 (hiZ (d))) G1.out (i := 1) rfl 2 rfl
  have c1_3_1 := Bags.cell (v := .int .u64 (loZ (d))) G1.out (i := 1) rfl 3 rfl
  have l1_1 := Bags.lt G1.out (i := 1) rfl
  go_wp2_with fail
  refine (rfless a b c d _ (HO.out.keep U1.out)).mono ?_
  rintro e w2 ⟨rfl, hb2⟩
  have G2 : Hid (Bags [(p0, #[.int .u64 (hiZ (a)), .int .u64 (loZ (a)), .int .u64 (hiZ (b)), .int .u64 (loZ (b))], 41), (p1, #[.int .u64 (hiZ (c)), .int .u64 (loZ (c)), .int .u64 (hiZ (d)), .int .u64 (loZ (d))], 41)] w2) := Bags.keep G1.out hb2
  have U2 : Hid (Below w.heap.size w w2) := below_of U1.out hb2
  clear hb2 c0_0_1 c0_1_1 c0_2_1 c0_3_1 l0_1 c1_0_1 c1_1_1 c1_2_1 c1_3_1 l1_1
  go_wp2_with fail
  refine (lives2_any _ (tabs_stays HT.out U2.out)).mono ?_
  rintro e w3 ⟨rfl, hb3⟩
  have G3 : Hid (Bags [(p0, #[.int .u64 (hiZ (a)), .int .u64 (loZ (a)), .int .u64 (hiZ (b)), .int .u64 (loZ (b))], 41), (p1, #[.int .u64 (hiZ (c)), .int .u64 (loZ (c)), .int .u64 (hiZ (d)), .int .u64 (loZ (d))], 41)] w3) := Bags.keep G2.out hb3
  have U3 : Hid (Below w.heap.size w w3) := below_of U2.out hb3
  clear hb3
  go_wp2_with fail
  go_ret
  exact ⟨rfl, U3.out⟩
end Go.Proofs.YtnbchhjanlpdlaaDoor
