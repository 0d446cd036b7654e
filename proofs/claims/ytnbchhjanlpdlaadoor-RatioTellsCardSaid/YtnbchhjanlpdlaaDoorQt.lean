/-
  THE LAW plimsolllaw02.RatioTells: the program's answers of ratio are the document's: the walk: it answers true, of any two numbers and any number of 64 bits.
-/
import Derived.Test.YtnbchhjanlpdlaaDoorQc
import Derived.Test.YtnbchhjanlpdlaaDoorLives2
namespace Go.Proofs.YtnbchhjanlpdlaaDoor
open Go Go.RowKit

theorem both_red (a b : U) : ∃ (N D : U) (e : Int),
    (∀ w : World, Calls Tryd.prog 25 #[.agg #[.int .u64 (hiZ a), .int .u64 (loZ a)], .agg #[.int .u64 (hiZ b), .int .u64 (loZ b)]] w fun en w' => en = .returned (.tuple #[.agg #[.int .u64 (hiZ N), .int .u64 (loZ N), .int .u64 (hiZ D), .int .u64 (loZ D)], .int .i64 e]) ∧ Below w.heap.size w w') ∧
    (∀ w : World, Calls Tryd.prog 26 #[.agg #[.int .u64 (hiZ a), .int .u64 (loZ a)], .agg #[.int .u64 (hiZ b), .int .u64 (loZ b)]] w fun en w' => en = .returned (.tuple #[.agg #[.int .u64 (hiZ N), .int .u64 (loZ N), .int .u64 (hiZ D), .int .u64 (loZ D)], .int .i64 e]) ∧ Below w.heap.size w w') := by
  by_cases h : b.n = 0
  · exact ⟨U.zero, U.zero, 1, fun w => reduce_zero a b h w, fun w => rreduce_zero a b h w⟩
  · exact ⟨redN a b, redD a b, 0, fun w => reduce_any a b h w, fun w => rreduce a b h w⟩
theorem both_rate (a : U) (k : Nat) (hk : k < 18446744073709551616) : ∃ (N D : U) (e : Int),
    (∀ w : World, Calls Tryd.prog 27 #[.agg #[.int .u64 (hiZ a), .int .u64 (loZ a)], .int .u64 k] w fun en w' => en = .returned (.tuple #[.agg #[.int .u64 (hiZ N), .int .u64 (loZ N), .int .u64 (hiZ D), .int .u64 (loZ D)], .int .i64 e]) ∧ Below w.heap.size w w') ∧
    (∀ w : World, Calls Tryd.prog 28 #[.agg #[.int .u64 (hiZ a), .int .u64 (loZ a)], .int .u64 k] w fun en w' => en = .returned (.tuple #[.agg #[.int .u64 (hiZ N), .int .u64 (loZ N), .int .u64 (hiZ D), .int .u64 (loZ D)], .int .i64 e]) ∧ Below w.heap.size w w') := by
  rcases Nat.eq_zero_or_pos k with h | h
  · subst h
    exact ⟨U.zero, U.zero, 12, fun w => rate_zero a w, fun w => rrate_zero a w⟩
  · rcases Nat.lt_or_ge (a.n * 1000) 340282366920938463463374607431768211456 with hm | hm
    · exact ⟨rateN a k, rateD a k, 0, fun w => rate_any a k h hk hm w, fun w => rrate a k h hk hm w⟩
    · exact ⟨U.zero, U.zero, 1, fun w => rate_over a k h hk hm w, fun w => rrate_over a k h hk hm w⟩
theorem both_floor (a b : U) : ∃ (N : U) (e : Int),
    (∀ w : World, Calls Tryd.prog 29 #[.agg #[.int .u64 (hiZ a), .int .u64 (loZ a), .int .u64 (hiZ b), .int .u64 (loZ b)]] w fun en w' => en = .returned (.tuple #[.agg #[.int .u64 (hiZ N), .int .u64 (loZ N)], .int .i64 e]) ∧ Below w.heap.size w w') ∧
    (∀ w : World, Calls Tryd.prog 30 #[.agg #[.int .u64 (hiZ a), .int .u64 (loZ a), .int .u64 (hiZ b), .int .u64 (loZ b)]] w fun en w' => en = .returned (.tuple #[.agg #[.int .u64 (hiZ N), .int .u64 (loZ N)], .int .i64 e]) ∧ Below w.heap.size w w') := by
  by_cases h : b.n = 0
  · exact ⟨U.zero, 2, fun w => floor_zero a b h w, fun w => rfloor_zero a b h w⟩
  · exact ⟨divW a b, 0, fun w => floor_any a b h w, fun w => rfloor a b h w⟩
theorem eql_frac (a b c d : Int) (w : World) : (binOp .eql 41 (.agg #[.int .u64 a, .int .u64 b, .int .u64 c, .int .u64 d]) (.agg #[.int .u64 a, .int .u64 b, .int .u64 c, .int .u64 d])).run Tryd.prog w = .ok (.bool true) w := by
  go_simp

set_option maxHeartbeats 8000000 in
set_option maxRecDepth 100000 in
theorem rtells_walk (a b : U) (k : Nat) (hk : k < 18446744073709551616) (w : World) (htab : tabs w) (hone : OneW w) :
    Calls Tryd.prog 5 #[.agg #[.int .u64 (hiZ a), .int .u64 (loZ a)], .agg #[.int .u64 (hiZ b), .int .u64 (loZ b)], .int .u64 k] w fun e w' =>
      e = .returned (.bool true) ∧ Below w.heap.size w w' := by
  have HT := Lib.hid htab
  have HO := Lib.hid hone
  obtain ⟨rn, rd, re, hr1, hr2⟩ := both_red a b
  obtain ⟨tn, td, te, ht1, ht2⟩ := both_rate a k hk
  obtain ⟨fn, fe, hf1, hf2⟩ := both_floor a b
  have R1 := Lib.hid hr1
  have R2 := Lib.hid hr2
  have T1 := Lib.hid ht1
  have T2 := Lib.hid ht2
  have F1 := Lib.hid hf1
  have F2 := Lib.hid hf2
  clear htab hone hk hr1 hr2 ht1 ht2 hf1 hf2
  go_enter Tryd.func5, Tryd.ntmps5
  go_upto_region 1 with fail
  obtain ⟨w0, hw0⟩ : ∃ x, x = ((w.alloc (.cells #[.int .u64 (hiZ (a)), .int .u64 (loZ (a))] 24)).alloc (.cells #[.int .u64 (hiZ (b)), .int .u64 (loZ (b))] 24)) := ⟨_, rfl⟩
  obtain ⟨p0, hp0⟩ : ∃ x, x = w.heap.size := ⟨_, rfl⟩
  obtain ⟨p1, hp1⟩ : ∃ x, x = w.heap.size + 1 := ⟨_, rfl⟩
  have G0 : Hid (Bags [(p0, #[.int .u64 (hiZ (a)), .int .u64 (loZ (a))], 24), (p1, #[.int .u64 (hiZ (b)), .int .u64 (loZ (b))], 24)] w0) := by rw [hw0]; exact (((Bags.nil w).push hp0 _ _).push (by simp [hp1]) _ _)
  have U0 : Hid (Below w.heap.size w w0) := by rw [hw0]; exact (show Below w.heap.size w _ by go_grown)
  have LE : Hid (w.heap.size ≤ p0 ∧ w.heap.size ≤ p1) := by refine ⟨?_, ?_⟩ <;> omega
  have ne01 : p0 ≠ p1 := by omega
  rw [← hw0, ← hp1, ← hp0]
  clear hw0 hp0 hp1
  have c0_0_0 := Bags.cell (v := .int .u64 (hiZ (a))) G0.out (i := 0) rfl 0 rfl
  have c0_1_0 := Bags.cell (v := .int .u64 (loZ (a))) G0.out (i := 0) rfl 1 rfl
  have l0_0 := Bags.lt G0.out (i := 0) rfl
  have c1_0_0 := Bags.cell (v := .int .u64 (hiZ (b))) G0.out (i := 1) rfl 0 rfl
  have c1_1_0 := Bags.cell (v := .int .u64 (loZ (b))) G0.out (i := 1) rfl 1 rfl
  have l1_0 := Bags.lt G0.out (i := 1) rfl
  go_wp2_with fail
  refine (R1.out _).mono ?_
  rintro e w1 ⟨rfl, hb1⟩
  have G1 : Hid (Bags [(p0, #[.int .u64 (hiZ (a)), .int .u64 (loZ (a))], 24), (p1, #[.int .u64 (hiZ (b)), .int .u64 (loZ (b))], 24)] w1) := Bags.keep G0.out hb1
  have U1 : Hid (Below w.heap.size w w1) := below_of U0.out hb1
  clear hb1 c0_0_0 c0_1_0 l0_0 c1_0_0 c1_1_0 l1_0
  have c0_0_1 := Bags.cell (v := .int .u64 (hiZ (a))) G1.out (i := 0) rfl 0 rfl
  have c0_1_1 := Bags.cell (v := .int .u64 (loZ (a))) G1.out (i := 0) rfl 1 rfl
  have l0_1 := Bags.lt G1.out (i := 0) rfl
  have c1_0_1 := Bags.cell (v := .int .u64 (hiZ (b))) G1.out (i := 1) rfl 0 rfl
  have c1_1_1 := Bags.cell (v := .int .u64 (loZ (b))) G1.out (i := 1) rfl 1 rfl
  have l1_1 := Bags.lt G1.out (i := 1) rfl
  go_wp2_with fail
  refine (R2.out _).mono ?_
  rintro e w2 ⟨rfl, hb2⟩
  have G2 : Hid (Bags [(p0, #[.int .u64 (hiZ (a)), .int .u64 (loZ (a))], 24), (p1, #[.int .u64 (hiZ (b)), .int .u64 (loZ (b))], 24), (w1.heap.size, #[.int .u64 (hiZ (rn)), .int .u64 (loZ (rn)), .int .u64 (hiZ (rd)), .int .u64 (loZ (rd))], 41)] w2) := Bags.keep (G1.out.push rfl _ _) hb2
  have U2 : Hid (Below w.heap.size w w2) := below_of (by have h := U1.out; have hz := h.size; go_grown) hb2
  clear hb2 c0_0_1 c0_1_1 l0_1 c1_0_1 c1_1_1 l1_1
  have c0_0_2 := Bags.cell (v := .int .u64 (hiZ (a))) G2.out (i := 0) rfl 0 rfl
  have c0_1_2 := Bags.cell (v := .int .u64 (loZ (a))) G2.out (i := 0) rfl 1 rfl
  have l0_2 := Bags.lt G2.out (i := 0) rfl
  have c1_0_2 := Bags.cell (v := .int .u64 (hiZ (b))) G2.out (i := 1) rfl 0 rfl
  have c1_1_2 := Bags.cell (v := .int .u64 (loZ (b))) G2.out (i := 1) rfl 1 rfl
  have l1_2 := Bags.lt G2.out (i := 1) rfl
  go_wp2_with fail
  refine (T1.out _).mono ?_
  rintro e w3 ⟨rfl, hb3⟩
  have G3 : Hid (Bags [(p0, #[.int .u64 (hiZ (a)), .int .u64 (loZ (a))], 24), (p1, #[.int .u64 (hiZ (b)), .int .u64 (loZ (b))], 24), (w1.heap.size, #[.int .u64 (hiZ (rn)), .int .u64 (loZ (rn)), .int .u64 (hiZ (rd)), .int .u64 (loZ (rd))], 41), (w2.heap.size, #[.int .u64 (hiZ (rn)), .int .u64 (loZ (rn)), .int .u64 (hiZ (rd)), .int .u64 (loZ (rd))], 41)] w3) := Bags.keep (G2.out.push rfl _ _) hb3
  have U3 : Hid (Below w.heap.size w w3) := below_of (by have h := U2.out; have hz := h.size; go_grown) hb3
  clear hb3 c0_0_2 c0_1_2 l0_2 c1_0_2 c1_1_2 l1_2
  have c0_0_3 := Bags.cell (v := .int .u64 (hiZ (a))) G3.out (i := 0) rfl 0 rfl
  have c0_1_3 := Bags.cell (v := .int .u64 (loZ (a))) G3.out (i := 0) rfl 1 rfl
  have l0_3 := Bags.lt G3.out (i := 0) rfl
  go_wp2_with fail
  refine (T2.out _).mono ?_
  rintro e w4 ⟨rfl, hb4⟩
  have G4 : Hid (Bags [(p0, #[.int .u64 (hiZ (a)), .int .u64 (loZ (a))], 24), (p1, #[.int .u64 (hiZ (b)), .int .u64 (loZ (b))], 24), (w1.heap.size, #[.int .u64 (hiZ (rn)), .int .u64 (loZ (rn)), .int .u64 (hiZ (rd)), .int .u64 (loZ (rd))], 41), (w2.heap.size, #[.int .u64 (hiZ (rn)), .int .u64 (loZ (rn)), .int .u64 (hiZ (rd)), .int .u64 (loZ (rd))], 41), (w3.heap.size, #[.int .u64 (hiZ (tn)), .int .u64 (loZ (tn)), .int .u64 (hiZ (td)), .int .u64 (loZ (td))], 41)] w4) := Bags.keep (G3.out.push rfl _ _) hb4
  have U4 : Hid (Below w.heap.size w w4) := below_of (by have h := U3.out; have hz := h.size; go_grown) hb4
  clear hb4 c0_0_3 c0_1_3 l0_3
  have c0_0_4 := Bags.cell (v := .int .u64 (hiZ (a))) G4.out (i := 0) rfl 0 rfl
  have c0_1_4 := Bags.cell (v := .int .u64 (loZ (a))) G4.out (i := 0) rfl 1 rfl
  have l0_4 := Bags.lt G4.out (i := 0) rfl
  have c1_0_4 := Bags.cell (v := .int .u64 (hiZ (b))) G4.out (i := 1) rfl 0 rfl
  have c1_1_4 := Bags.cell (v := .int .u64 (loZ (b))) G4.out (i := 1) rfl 1 rfl
  have l1_4 := Bags.lt G4.out (i := 1) rfl
  go_wp2_with fail
  refine (F1.out _).mono ?_
  rintro e w5 ⟨rfl, hb5⟩
  have G5 : Hid (Bags [(p0, #[.int .u64 (hiZ (a)), .int .u64 (loZ (a))], 24), (p1, #[.int .u64 (hiZ (b)), .int .u64 (loZ (b))], 24), (w1.heap.size, #[.int .u64 (hiZ (rn)), .int .u64 (loZ (rn)), .int .u64 (hiZ (rd)), .int .u64 (loZ (rd))], 41), (w2.heap.size, #[.int .u64 (hiZ (rn)), .int .u64 (loZ (rn)), .int .u64 (hiZ (rd)), .int .u64 (loZ (rd))], 41), (w3.heap.size, #[.int .u64 (hiZ (tn)), .int .u64 (loZ (tn)), .int .u64 (hiZ (td)), .int .u64 (loZ (td))], 41), (w4.heap.size, #[.int .u64 (hiZ (tn)), .int .u64 (loZ (tn)), .int .u64 (hiZ (td)), .int .u64 (loZ (td))], 41), (w4.heap.size + 1, #[.int .u64 (hiZ (a)), .int .u64 (loZ (a)), .int .u64 (hiZ (b)), .int .u64 (loZ (b))], 41)] w5) := Bags.keep ((G4.out.push rfl _ _).push (by simp) _ _) hb5
  have U5 : Hid (Below w.heap.size w w5) := below_of (by have h := U4.out; have hz := h.size; go_grown) hb5
  clear hb5 c0_0_4 c0_1_4 l0_4 c1_0_4 c1_1_4 l1_4
  have c6_0_5 := Bags.cell (v := .int .u64 (hiZ (a))) G5.out (i := 6) rfl 0 rfl
  have c6_1_5 := Bags.cell (v := .int .u64 (loZ (a))) G5.out (i := 6) rfl 1 rfl
  have c6_2_5 := Bags.cell (v := .int .u64 (hiZ (b))) G5.out (i := 6) rfl 2 rfl
  have c6_3_5 := Bags.cell (v := .int .u64 (loZ (b))) G5.out (i := 6) rfl 3 rfl
  have l6_5 := Bags.lt G5.out (i := 6) rfl
  go_wp2_with fail
  refine (F2.out _).mono ?_
  rintro e w6 ⟨rfl, hb6⟩
  have G6 : Hid (Bags [(p0, #[.int .u64 (hiZ (a)), .int .u64 (loZ (a))], 24), (p1, #[.int .u64 (hiZ (b)), .int .u64 (loZ (b))], 24), (w1.heap.size, #[.int .u64 (hiZ (rn)), .int .u64 (loZ (rn)), .int .u64 (hiZ (rd)), .int .u64 (loZ (rd))], 41), (w2.heap.size, #[.int .u64 (hiZ (rn)), .int .u64 (loZ (rn)), .int .u64 (hiZ (rd)), .int .u64 (loZ (rd))], 41), (w3.heap.size, #[.int .u64 (hiZ (tn)), .int .u64 (loZ (tn)), .int .u64 (hiZ (td)), .int .u64 (loZ (td))], 41), (w4.heap.size, #[.int .u64 (hiZ (tn)), .int .u64 (loZ (tn)), .int .u64 (hiZ (td)), .int .u64 (loZ (td))], 41), (w4.heap.size + 1, #[.int .u64 (hiZ (a)), .int .u64 (loZ (a)), .int .u64 (hiZ (b)), .int .u64 (loZ (b))], 41), (w5.heap.size, #[.int .u64 (hiZ (fn)), .int .u64 (loZ (fn))], 24)] w6) := Bags.keep (G5.out.push rfl _ _) hb6
  have U6 : Hid (Below w.heap.size w w6) := below_of (by have h := U5.out; have hz := h.size; go_grown) hb6
  clear hb6 c6_0_5 c6_1_5 c6_2_5 c6_3_5 l6_5
  go_upto_region 8 with fail
  obtain ⟨wz, hwz⟩ : ∃ x, x = w6.alloc (.cells #[.int .u64 (hiZ (fn)), .int .u64 (loZ (fn))] 24) := ⟨_, rfl⟩
  have GZ : Bags [(p0, #[.int .u64 (hiZ (a)), .int .u64 (loZ (a))], 24), (p1, #[.int .u64 (hiZ (b)), .int .u64 (loZ (b))], 24), (w1.heap.size, #[.int .u64 (hiZ (rn)), .int .u64 (loZ (rn)), .int .u64 (hiZ (rd)), .int .u64 (loZ (rd))], 41), (w2.heap.size, #[.int .u64 (hiZ (rn)), .int .u64 (loZ (rn)), .int .u64 (hiZ (rd)), .int .u64 (loZ (rd))], 41), (w3.heap.size, #[.int .u64 (hiZ (tn)), .int .u64 (loZ (tn)), .int .u64 (hiZ (td)), .int .u64 (loZ (td))], 41), (w4.heap.size, #[.int .u64 (hiZ (tn)), .int .u64 (loZ (tn)), .int .u64 (hiZ (td)), .int .u64 (loZ (td))], 41), (w4.heap.size + 1, #[.int .u64 (hiZ (a)), .int .u64 (loZ (a)), .int .u64 (hiZ (b)), .int .u64 (loZ (b))], 41), (w5.heap.size, #[.int .u64 (hiZ (fn)), .int .u64 (loZ (fn))], 24), (w6.heap.size, #[.int .u64 (hiZ (fn)), .int .u64 (loZ (fn))], 24)] wz.drew := by rw [hwz]; exact Bags.drew (G6.out.push rfl _ _)
  have UZ : Below w.heap.size w wz.drew := by rw [hwz]; exact (U6.out.alloc U6.out.size _).drew
  have OZ : OneW wz.drew := HO.out.keep UZ
  have q1 := eql_frac (hiZ rn) (loZ rn) (hiZ rd) (loZ rd)
  have q2 := eql_frac (hiZ tn) (loZ tn) (hiZ td) (loZ td)
  rw [← hwz]
  clear hwz G0 G1 G2 G3 G4 G5 G6 U0 U1 U2 U3 U4 U5 U6 R1 R2 T1 T2 F1 F2 ne01 LE
  have f0_0 := Bags.cell (v := .int .u64 (hiZ (a))) GZ (i := 0) rfl 0 rfl
  have f0_1 := Bags.cell (v := .int .u64 (loZ (a))) GZ (i := 0) rfl 1 rfl
  have f1_0 := Bags.cell (v := .int .u64 (hiZ (b))) GZ (i := 1) rfl 0 rfl
  have f1_1 := Bags.cell (v := .int .u64 (loZ (b))) GZ (i := 1) rfl 1 rfl
  have f2_0 := Bags.cell (v := .int .u64 (hiZ (rn))) GZ (i := 2) rfl 0 rfl
  have f2_1 := Bags.cell (v := .int .u64 (loZ (rn))) GZ (i := 2) rfl 1 rfl
  have f2_2 := Bags.cell (v := .int .u64 (hiZ (rd))) GZ (i := 2) rfl 2 rfl
  have f2_3 := Bags.cell (v := .int .u64 (loZ (rd))) GZ (i := 2) rfl 3 rfl
  have f3_0 := Bags.cell (v := .int .u64 (hiZ (rn))) GZ (i := 3) rfl 0 rfl
  have f3_1 := Bags.cell (v := .int .u64 (loZ (rn))) GZ (i := 3) rfl 1 rfl
  have f3_2 := Bags.cell (v := .int .u64 (hiZ (rd))) GZ (i := 3) rfl 2 rfl
  have f3_3 := Bags.cell (v := .int .u64 (loZ (rd))) GZ (i := 3) rfl 3 rfl
  have f4_0 := Bags.cell (v := .int .u64 (hiZ (tn))) GZ (i := 4) rfl 0 rfl
  have f4_1 := Bags.cell (v := .int .u64 (loZ (tn))) GZ (i := 4) rfl 1 rfl
  have f4_2 := Bags.cell (v := .int .u64 (hiZ (td))) GZ (i := 4) rfl 2 rfl
  have f4_3 := Bags.cell (v := .int .u64 (loZ (td))) GZ (i := 4) rfl 3 rfl
  have f5_0 := Bags.cell (v := .int .u64 (hiZ (tn))) GZ (i := 5) rfl 0 rfl
  have f5_1 := Bags.cell (v := .int .u64 (loZ (tn))) GZ (i := 5) rfl 1 rfl
  have f5_2 := Bags.cell (v := .int .u64 (hiZ (td))) GZ (i := 5) rfl 2 rfl
  have f5_3 := Bags.cell (v := .int .u64 (loZ (td))) GZ (i := 5) rfl 3 rfl
  have f6_0 := Bags.cell (v := .int .u64 (hiZ (a))) GZ (i := 6) rfl 0 rfl
  have f6_1 := Bags.cell (v := .int .u64 (loZ (a))) GZ (i := 6) rfl 1 rfl
  have f6_2 := Bags.cell (v := .int .u64 (hiZ (b))) GZ (i := 6) rfl 2 rfl
  have f6_3 := Bags.cell (v := .int .u64 (loZ (b))) GZ (i := 6) rfl 3 rfl
  have f7_0 := Bags.cell (v := .int .u64 (hiZ (fn))) GZ (i := 7) rfl 0 rfl
  have f7_1 := Bags.cell (v := .int .u64 (loZ (fn))) GZ (i := 7) rfl 1 rfl
  have f8_0 := Bags.cell (v := .int .u64 (hiZ (fn))) GZ (i := 8) rfl 0 rfl
  have f8_1 := Bags.cell (v := .int .u64 (loZ (fn))) GZ (i := 8) rfl 1 rfl
  go_region_held3 (fun w' => w'.cell? ⟨p0, 0, none⟩ = some (.int .u64 (hiZ (a))) ∧ w'.cell? ⟨p0, 1, none⟩ = some (.int .u64 (loZ (a))) ∧ w'.cell? ⟨p1, 0, none⟩ = some (.int .u64 (hiZ (b))) ∧ w'.cell? ⟨p1, 1, none⟩ = some (.int .u64 (loZ (b))) ∧ w'.cell? ⟨w1.heap.size, 0, none⟩ = some (.int .u64 (hiZ (rn))) ∧ w'.cell? ⟨w1.heap.size, 1, none⟩ = some (.int .u64 (loZ (rn))) ∧ w'.cell? ⟨w1.heap.size, 2, none⟩ = some (.int .u64 (hiZ (rd))) ∧ w'.cell? ⟨w1.heap.size, 3, none⟩ = some (.int .u64 (loZ (rd))) ∧ w'.cell? ⟨w2.heap.size, 0, none⟩ = some (.int .u64 (hiZ (rn))) ∧ w'.cell? ⟨w2.heap.size, 1, none⟩ = some (.int .u64 (loZ (rn))) ∧ w'.cell? ⟨w2.heap.size, 2, none⟩ = some (.int .u64 (hiZ (rd))) ∧ w'.cell? ⟨w2.heap.size, 3, none⟩ = some (.int .u64 (loZ (rd))) ∧ w'.cell? ⟨w3.heap.size, 0, none⟩ = some (.int .u64 (hiZ (tn))) ∧ w'.cell? ⟨w3.heap.size, 1, none⟩ = some (.int .u64 (loZ (tn))) ∧ w'.cell? ⟨w3.heap.size, 2, none⟩ = some (.int .u64 (hiZ (td))) ∧ w'.cell? ⟨w3.heap.size, 3, none⟩ = some (.int .u64 (loZ (td))) ∧ w'.cell? ⟨w4.heap.size, 0, none⟩ = some (.int .u64 (hiZ (tn))) ∧ w'.cell? ⟨w4.heap.size, 1, none⟩ = some (.int .u64 (loZ (tn))) ∧ w'.cell? ⟨w4.heap.size, 2, none⟩ = some (.int .u64 (hiZ (td))) ∧ w'.cell? ⟨w4.heap.size, 3, none⟩ = some (.int .u64 (loZ (td))) ∧ w'.cell? ⟨w4.heap.size + 1, 0, none⟩ = some (.int .u64 (hiZ (a))) ∧ w'.cell? ⟨w4.heap.size + 1, 1, none⟩ = some (.int .u64 (loZ (a))) ∧ w'.cell? ⟨w4.heap.size + 1, 2, none⟩ = some (.int .u64 (hiZ (b))) ∧ w'.cell? ⟨w4.heap.size + 1, 3, none⟩ = some (.int .u64 (loZ (b))) ∧ w'.cell? ⟨w5.heap.size, 0, none⟩ = some (.int .u64 (hiZ (fn))) ∧ w'.cell? ⟨w5.heap.size, 1, none⟩ = some (.int .u64 (loZ (fn))) ∧ w'.cell? ⟨w6.heap.size, 0, none⟩ = some (.int .u64 (hiZ (fn))) ∧ w'.cell? ⟨w6.heap.size, 1, none⟩ = some (.int .u64 (loZ (fn)))) (exact ⟨by assumption, by assumption, by assumption, by assumption, by assumption, by assumption, by assumption, by assumption, by assumption, by assumption, by assumption, by assumption, by assumption, by assumption, by assumption, by assumption, by assumption, by assumption, by assumption, by assumption, by assumption, by assumption, by assumption, by assumption, by assumption, by assumption, by assumption, by assumption⟩) ((first
    | (go_at_call 31; refine (lives2_any _ (tabs_stays HT.out (by assumption))).mono ?_; rintro e wx ⟨rfl, hbx⟩; have gx := Bags.keep (by assumption) hbx; have ux : Below w.heap.size w wx := below_of (by assumption) hbx; have ox : OneW wx := HO.out.keep ux; clear hbx; have f0_0 := Bags.cell (v := .int .u64 (hiZ (a))) gx (i := 0) rfl 0 rfl; have f0_1 := Bags.cell (v := .int .u64 (loZ (a))) gx (i := 0) rfl 1 rfl; have f1_0 := Bags.cell (v := .int .u64 (hiZ (b))) gx (i := 1) rfl 0 rfl; have f1_1 := Bags.cell (v := .int .u64 (loZ (b))) gx (i := 1) rfl 1 rfl; have f2_0 := Bags.cell (v := .int .u64 (hiZ (rn))) gx (i := 2) rfl 0 rfl; have f2_1 := Bags.cell (v := .int .u64 (loZ (rn))) gx (i := 2) rfl 1 rfl; have f2_2 := Bags.cell (v := .int .u64 (hiZ (rd))) gx (i := 2) rfl 2 rfl; have f2_3 := Bags.cell (v := .int .u64 (loZ (rd))) gx (i := 2) rfl 3 rfl; have f3_0 := Bags.cell (v := .int .u64 (hiZ (rn))) gx (i := 3) rfl 0 rfl; have f3_1 := Bags.cell (v := .int .u64 (loZ (rn))) gx (i := 3) rfl 1 rfl; have f3_2 := Bags.cell (v := .int .u64 (hiZ (rd))) gx (i := 3) rfl 2 rfl; have f3_3 := Bags.cell (v := .int .u64 (loZ (rd))) gx (i := 3) rfl 3 rfl; have f4_0 := Bags.cell (v := .int .u64 (hiZ (tn))) gx (i := 4) rfl 0 rfl; have f4_1 := Bags.cell (v := .int .u64 (loZ (tn))) gx (i := 4) rfl 1 rfl; have f4_2 := Bags.cell (v := .int .u64 (hiZ (td))) gx (i := 4) rfl 2 rfl; have f4_3 := Bags.cell (v := .int .u64 (loZ (td))) gx (i := 4) rfl 3 rfl; have f5_0 := Bags.cell (v := .int .u64 (hiZ (tn))) gx (i := 5) rfl 0 rfl; have f5_1 := Bags.cell (v := .int .u64 (loZ (tn))) gx (i := 5) rfl 1 rfl; have f5_2 := Bags.cell (v := .int .u64 (hiZ (td))) gx (i := 5) rfl 2 rfl; have f5_3 := Bags.cell (v := .int .u64 (loZ (td))) gx (i := 5) rfl 3 rfl; have f6_0 := Bags.cell (v := .int .u64 (hiZ (a))) gx (i := 6) rfl 0 rfl; have f6_1 := Bags.cell (v := .int .u64 (loZ (a))) gx (i := 6) rfl 1 rfl; have f6_2 := Bags.cell (v := .int .u64 (hiZ (b))) gx (i := 6) rfl 2 rfl; have f6_3 := Bags.cell (v := .int .u64 (loZ (b))) gx (i := 6) rfl 3 rfl; have f7_0 := Bags.cell (v := .int .u64 (hiZ (fn))) gx (i := 7) rfl 0 rfl; have f7_1 := Bags.cell (v := .int .u64 (loZ (fn))) gx (i := 7) rfl 1 rfl; have f8_0 := Bags.cell (v := .int .u64 (hiZ (fn))) gx (i := 8) rfl 0 rfl; have f8_1 := Bags.cell (v := .int .u64 (loZ (fn))) gx (i := 8) rfl 1 rfl)
    | (go_at_call 32; refine (gcd_any a b _).mono ?_; rintro e wx ⟨rfl, hbx⟩; have gx := Bags.keep (by assumption) hbx; have ux : Below w.heap.size w wx := below_of (by assumption) hbx; have ox : OneW wx := HO.out.keep ux; clear hbx; have f0_0 := Bags.cell (v := .int .u64 (hiZ (a))) gx (i := 0) rfl 0 rfl; have f0_1 := Bags.cell (v := .int .u64 (loZ (a))) gx (i := 0) rfl 1 rfl; have f1_0 := Bags.cell (v := .int .u64 (hiZ (b))) gx (i := 1) rfl 0 rfl; have f1_1 := Bags.cell (v := .int .u64 (loZ (b))) gx (i := 1) rfl 1 rfl; have f2_0 := Bags.cell (v := .int .u64 (hiZ (rn))) gx (i := 2) rfl 0 rfl; have f2_1 := Bags.cell (v := .int .u64 (loZ (rn))) gx (i := 2) rfl 1 rfl; have f2_2 := Bags.cell (v := .int .u64 (hiZ (rd))) gx (i := 2) rfl 2 rfl; have f2_3 := Bags.cell (v := .int .u64 (loZ (rd))) gx (i := 2) rfl 3 rfl; have f3_0 := Bags.cell (v := .int .u64 (hiZ (rn))) gx (i := 3) rfl 0 rfl; have f3_1 := Bags.cell (v := .int .u64 (loZ (rn))) gx (i := 3) rfl 1 rfl; have f3_2 := Bags.cell (v := .int .u64 (hiZ (rd))) gx (i := 3) rfl 2 rfl; have f3_3 := Bags.cell (v := .int .u64 (loZ (rd))) gx (i := 3) rfl 3 rfl; have f4_0 := Bags.cell (v := .int .u64 (hiZ (tn))) gx (i := 4) rfl 0 rfl; have f4_1 := Bags.cell (v := .int .u64 (loZ (tn))) gx (i := 4) rfl 1 rfl; have f4_2 := Bags.cell (v := .int .u64 (hiZ (td))) gx (i := 4) rfl 2 rfl; have f4_3 := Bags.cell (v := .int .u64 (loZ (td))) gx (i := 4) rfl 3 rfl; have f5_0 := Bags.cell (v := .int .u64 (hiZ (tn))) gx (i := 5) rfl 0 rfl; have f5_1 := Bags.cell (v := .int .u64 (loZ (tn))) gx (i := 5) rfl 1 rfl; have f5_2 := Bags.cell (v := .int .u64 (hiZ (td))) gx (i := 5) rfl 2 rfl; have f5_3 := Bags.cell (v := .int .u64 (loZ (td))) gx (i := 5) rfl 3 rfl; have f6_0 := Bags.cell (v := .int .u64 (hiZ (a))) gx (i := 6) rfl 0 rfl; have f6_1 := Bags.cell (v := .int .u64 (loZ (a))) gx (i := 6) rfl 1 rfl; have f6_2 := Bags.cell (v := .int .u64 (hiZ (b))) gx (i := 6) rfl 2 rfl; have f6_3 := Bags.cell (v := .int .u64 (loZ (b))) gx (i := 6) rfl 3 rfl; have f7_0 := Bags.cell (v := .int .u64 (hiZ (fn))) gx (i := 7) rfl 0 rfl; have f7_1 := Bags.cell (v := .int .u64 (loZ (fn))) gx (i := 7) rfl 1 rfl; have f8_0 := Bags.cell (v := .int .u64 (hiZ (fn))) gx (i := 8) rfl 0 rfl; have f8_1 := Bags.cell (v := .int .u64 (loZ (fn))) gx (i := 8) rfl 1 rfl)
    | (go_at_call 33; refine (rgcd a b _).mono ?_; rintro e wx ⟨rfl, hbx⟩; have gx := Bags.keep (by assumption) hbx; have ux : Below w.heap.size w wx := below_of (by assumption) hbx; have ox : OneW wx := HO.out.keep ux; clear hbx; have f0_0 := Bags.cell (v := .int .u64 (hiZ (a))) gx (i := 0) rfl 0 rfl; have f0_1 := Bags.cell (v := .int .u64 (loZ (a))) gx (i := 0) rfl 1 rfl; have f1_0 := Bags.cell (v := .int .u64 (hiZ (b))) gx (i := 1) rfl 0 rfl; have f1_1 := Bags.cell (v := .int .u64 (loZ (b))) gx (i := 1) rfl 1 rfl; have f2_0 := Bags.cell (v := .int .u64 (hiZ (rn))) gx (i := 2) rfl 0 rfl; have f2_1 := Bags.cell (v := .int .u64 (loZ (rn))) gx (i := 2) rfl 1 rfl; have f2_2 := Bags.cell (v := .int .u64 (hiZ (rd))) gx (i := 2) rfl 2 rfl; have f2_3 := Bags.cell (v := .int .u64 (loZ (rd))) gx (i := 2) rfl 3 rfl; have f3_0 := Bags.cell (v := .int .u64 (hiZ (rn))) gx (i := 3) rfl 0 rfl; have f3_1 := Bags.cell (v := .int .u64 (loZ (rn))) gx (i := 3) rfl 1 rfl; have f3_2 := Bags.cell (v := .int .u64 (hiZ (rd))) gx (i := 3) rfl 2 rfl; have f3_3 := Bags.cell (v := .int .u64 (loZ (rd))) gx (i := 3) rfl 3 rfl; have f4_0 := Bags.cell (v := .int .u64 (hiZ (tn))) gx (i := 4) rfl 0 rfl; have f4_1 := Bags.cell (v := .int .u64 (loZ (tn))) gx (i := 4) rfl 1 rfl; have f4_2 := Bags.cell (v := .int .u64 (hiZ (td))) gx (i := 4) rfl 2 rfl; have f4_3 := Bags.cell (v := .int .u64 (loZ (td))) gx (i := 4) rfl 3 rfl; have f5_0 := Bags.cell (v := .int .u64 (hiZ (tn))) gx (i := 5) rfl 0 rfl; have f5_1 := Bags.cell (v := .int .u64 (loZ (tn))) gx (i := 5) rfl 1 rfl; have f5_2 := Bags.cell (v := .int .u64 (hiZ (td))) gx (i := 5) rfl 2 rfl; have f5_3 := Bags.cell (v := .int .u64 (loZ (td))) gx (i := 5) rfl 3 rfl; have f6_0 := Bags.cell (v := .int .u64 (hiZ (a))) gx (i := 6) rfl 0 rfl; have f6_1 := Bags.cell (v := .int .u64 (loZ (a))) gx (i := 6) rfl 1 rfl; have f6_2 := Bags.cell (v := .int .u64 (hiZ (b))) gx (i := 6) rfl 2 rfl; have f6_3 := Bags.cell (v := .int .u64 (loZ (b))) gx (i := 6) rfl 3 rfl; have f7_0 := Bags.cell (v := .int .u64 (hiZ (fn))) gx (i := 7) rfl 0 rfl; have f7_1 := Bags.cell (v := .int .u64 (loZ (fn))) gx (i := 7) rfl 1 rfl; have f8_0 := Bags.cell (v := .int .u64 (hiZ (fn))) gx (i := 8) rfl 0 rfl; have f8_1 := Bags.cell (v := .int .u64 (loZ (fn))) gx (i := 8) rfl 1 rfl)
    | (go_at_call 34; refine (check_any a b _).mono ?_; rintro e wx ⟨rfl, hbx⟩; have gx := Bags.keep (by assumption) hbx; have ux : Below w.heap.size w wx := below_of (by assumption) hbx; have ox : OneW wx := HO.out.keep ux; clear hbx; have f0_0 := Bags.cell (v := .int .u64 (hiZ (a))) gx (i := 0) rfl 0 rfl; have f0_1 := Bags.cell (v := .int .u64 (loZ (a))) gx (i := 0) rfl 1 rfl; have f1_0 := Bags.cell (v := .int .u64 (hiZ (b))) gx (i := 1) rfl 0 rfl; have f1_1 := Bags.cell (v := .int .u64 (loZ (b))) gx (i := 1) rfl 1 rfl; have f2_0 := Bags.cell (v := .int .u64 (hiZ (rn))) gx (i := 2) rfl 0 rfl; have f2_1 := Bags.cell (v := .int .u64 (loZ (rn))) gx (i := 2) rfl 1 rfl; have f2_2 := Bags.cell (v := .int .u64 (hiZ (rd))) gx (i := 2) rfl 2 rfl; have f2_3 := Bags.cell (v := .int .u64 (loZ (rd))) gx (i := 2) rfl 3 rfl; have f3_0 := Bags.cell (v := .int .u64 (hiZ (rn))) gx (i := 3) rfl 0 rfl; have f3_1 := Bags.cell (v := .int .u64 (loZ (rn))) gx (i := 3) rfl 1 rfl; have f3_2 := Bags.cell (v := .int .u64 (hiZ (rd))) gx (i := 3) rfl 2 rfl; have f3_3 := Bags.cell (v := .int .u64 (loZ (rd))) gx (i := 3) rfl 3 rfl; have f4_0 := Bags.cell (v := .int .u64 (hiZ (tn))) gx (i := 4) rfl 0 rfl; have f4_1 := Bags.cell (v := .int .u64 (loZ (tn))) gx (i := 4) rfl 1 rfl; have f4_2 := Bags.cell (v := .int .u64 (hiZ (td))) gx (i := 4) rfl 2 rfl; have f4_3 := Bags.cell (v := .int .u64 (loZ (td))) gx (i := 4) rfl 3 rfl; have f5_0 := Bags.cell (v := .int .u64 (hiZ (tn))) gx (i := 5) rfl 0 rfl; have f5_1 := Bags.cell (v := .int .u64 (loZ (tn))) gx (i := 5) rfl 1 rfl; have f5_2 := Bags.cell (v := .int .u64 (hiZ (td))) gx (i := 5) rfl 2 rfl; have f5_3 := Bags.cell (v := .int .u64 (loZ (td))) gx (i := 5) rfl 3 rfl; have f6_0 := Bags.cell (v := .int .u64 (hiZ (a))) gx (i := 6) rfl 0 rfl; have f6_1 := Bags.cell (v := .int .u64 (loZ (a))) gx (i := 6) rfl 1 rfl; have f6_2 := Bags.cell (v := .int .u64 (hiZ (b))) gx (i := 6) rfl 2 rfl; have f6_3 := Bags.cell (v := .int .u64 (loZ (b))) gx (i := 6) rfl 3 rfl; have f7_0 := Bags.cell (v := .int .u64 (hiZ (fn))) gx (i := 7) rfl 0 rfl; have f7_1 := Bags.cell (v := .int .u64 (loZ (fn))) gx (i := 7) rfl 1 rfl; have f8_0 := Bags.cell (v := .int .u64 (hiZ (fn))) gx (i := 8) rfl 0 rfl; have f8_1 := Bags.cell (v := .int .u64 (loZ (fn))) gx (i := 8) rfl 1 rfl)
    | (go_at_call 35; refine (rcheck a b _ (by assumption)).mono ?_; rintro e wx ⟨rfl, hbx⟩; have gx := Bags.keep (by assumption) hbx; have ux : Below w.heap.size w wx := below_of (by assumption) hbx; have ox : OneW wx := HO.out.keep ux; clear hbx; have f0_0 := Bags.cell (v := .int .u64 (hiZ (a))) gx (i := 0) rfl 0 rfl; have f0_1 := Bags.cell (v := .int .u64 (loZ (a))) gx (i := 0) rfl 1 rfl; have f1_0 := Bags.cell (v := .int .u64 (hiZ (b))) gx (i := 1) rfl 0 rfl; have f1_1 := Bags.cell (v := .int .u64 (loZ (b))) gx (i := 1) rfl 1 rfl; have f2_0 := Bags.cell (v := .int .u64 (hiZ (rn))) gx (i := 2) rfl 0 rfl; have f2_1 := Bags.cell (v := .int .u64 (loZ (rn))) gx (i := 2) rfl 1 rfl; have f2_2 := Bags.cell (v := .int .u64 (hiZ (rd))) gx (i := 2) rfl 2 rfl; have f2_3 := Bags.cell (v := .int .u64 (loZ (rd))) gx (i := 2) rfl 3 rfl; have f3_0 := Bags.cell (v := .int .u64 (hiZ (rn))) gx (i := 3) rfl 0 rfl; have f3_1 := Bags.cell (v := .int .u64 (loZ (rn))) gx (i := 3) rfl 1 rfl; have f3_2 := Bags.cell (v := .int .u64 (hiZ (rd))) gx (i := 3) rfl 2 rfl; have f3_3 := Bags.cell (v := .int .u64 (loZ (rd))) gx (i := 3) rfl 3 rfl; have f4_0 := Bags.cell (v := .int .u64 (hiZ (tn))) gx (i := 4) rfl 0 rfl; have f4_1 := Bags.cell (v := .int .u64 (loZ (tn))) gx (i := 4) rfl 1 rfl; have f4_2 := Bags.cell (v := .int .u64 (hiZ (td))) gx (i := 4) rfl 2 rfl; have f4_3 := Bags.cell (v := .int .u64 (loZ (td))) gx (i := 4) rfl 3 rfl; have f5_0 := Bags.cell (v := .int .u64 (hiZ (tn))) gx (i := 5) rfl 0 rfl; have f5_1 := Bags.cell (v := .int .u64 (loZ (tn))) gx (i := 5) rfl 1 rfl; have f5_2 := Bags.cell (v := .int .u64 (hiZ (td))) gx (i := 5) rfl 2 rfl; have f5_3 := Bags.cell (v := .int .u64 (loZ (td))) gx (i := 5) rfl 3 rfl; have f6_0 := Bags.cell (v := .int .u64 (hiZ (a))) gx (i := 6) rfl 0 rfl; have f6_1 := Bags.cell (v := .int .u64 (loZ (a))) gx (i := 6) rfl 1 rfl; have f6_2 := Bags.cell (v := .int .u64 (hiZ (b))) gx (i := 6) rfl 2 rfl; have f6_3 := Bags.cell (v := .int .u64 (loZ (b))) gx (i := 6) rfl 3 rfl; have f7_0 := Bags.cell (v := .int .u64 (hiZ (fn))) gx (i := 7) rfl 0 rfl; have f7_1 := Bags.cell (v := .int .u64 (loZ (fn))) gx (i := 7) rfl 1 rfl; have f8_0 := Bags.cell (v := .int .u64 (hiZ (fn))) gx (i := 8) rfl 0 rfl; have f8_1 := Bags.cell (v := .int .u64 (loZ (fn))) gx (i := 8) rfl 1 rfl)
    | (go_at_call 36; refine (textF a b _ (tabs_stays HT.out (by assumption))).mono ?_; rintro e wx ⟨rfl, hbx⟩; have gx := Bags.keep (by assumption) hbx; have ux : Below w.heap.size w wx := below_of (by assumption) hbx; have ox : OneW wx := HO.out.keep ux; clear hbx; have f0_0 := Bags.cell (v := .int .u64 (hiZ (a))) gx (i := 0) rfl 0 rfl; have f0_1 := Bags.cell (v := .int .u64 (loZ (a))) gx (i := 0) rfl 1 rfl; have f1_0 := Bags.cell (v := .int .u64 (hiZ (b))) gx (i := 1) rfl 0 rfl; have f1_1 := Bags.cell (v := .int .u64 (loZ (b))) gx (i := 1) rfl 1 rfl; have f2_0 := Bags.cell (v := .int .u64 (hiZ (rn))) gx (i := 2) rfl 0 rfl; have f2_1 := Bags.cell (v := .int .u64 (loZ (rn))) gx (i := 2) rfl 1 rfl; have f2_2 := Bags.cell (v := .int .u64 (hiZ (rd))) gx (i := 2) rfl 2 rfl; have f2_3 := Bags.cell (v := .int .u64 (loZ (rd))) gx (i := 2) rfl 3 rfl; have f3_0 := Bags.cell (v := .int .u64 (hiZ (rn))) gx (i := 3) rfl 0 rfl; have f3_1 := Bags.cell (v := .int .u64 (loZ (rn))) gx (i := 3) rfl 1 rfl; have f3_2 := Bags.cell (v := .int .u64 (hiZ (rd))) gx (i := 3) rfl 2 rfl; have f3_3 := Bags.cell (v := .int .u64 (loZ (rd))) gx (i := 3) rfl 3 rfl; have f4_0 := Bags.cell (v := .int .u64 (hiZ (tn))) gx (i := 4) rfl 0 rfl; have f4_1 := Bags.cell (v := .int .u64 (loZ (tn))) gx (i := 4) rfl 1 rfl; have f4_2 := Bags.cell (v := .int .u64 (hiZ (td))) gx (i := 4) rfl 2 rfl; have f4_3 := Bags.cell (v := .int .u64 (loZ (td))) gx (i := 4) rfl 3 rfl; have f5_0 := Bags.cell (v := .int .u64 (hiZ (tn))) gx (i := 5) rfl 0 rfl; have f5_1 := Bags.cell (v := .int .u64 (loZ (tn))) gx (i := 5) rfl 1 rfl; have f5_2 := Bags.cell (v := .int .u64 (hiZ (td))) gx (i := 5) rfl 2 rfl; have f5_3 := Bags.cell (v := .int .u64 (loZ (td))) gx (i := 5) rfl 3 rfl; have f6_0 := Bags.cell (v := .int .u64 (hiZ (a))) gx (i := 6) rfl 0 rfl; have f6_1 := Bags.cell (v := .int .u64 (loZ (a))) gx (i := 6) rfl 1 rfl; have f6_2 := Bags.cell (v := .int .u64 (hiZ (b))) gx (i := 6) rfl 2 rfl; have f6_3 := Bags.cell (v := .int .u64 (loZ (b))) gx (i := 6) rfl 3 rfl; have f7_0 := Bags.cell (v := .int .u64 (hiZ (fn))) gx (i := 7) rfl 0 rfl; have f7_1 := Bags.cell (v := .int .u64 (loZ (fn))) gx (i := 7) rfl 1 rfl; have f8_0 := Bags.cell (v := .int .u64 (hiZ (fn))) gx (i := 8) rfl 0 rfl; have f8_1 := Bags.cell (v := .int .u64 (loZ (fn))) gx (i := 8) rfl 1 rfl)
    | (go_at_call 37; refine (rtextF a b _).mono ?_; rintro e wx ⟨rfl, hbx⟩; have gx := Bags.keep (by assumption) hbx; have ux : Below w.heap.size w wx := below_of (by assumption) hbx; have ox : OneW wx := HO.out.keep ux; clear hbx; have f0_0 := Bags.cell (v := .int .u64 (hiZ (a))) gx (i := 0) rfl 0 rfl; have f0_1 := Bags.cell (v := .int .u64 (loZ (a))) gx (i := 0) rfl 1 rfl; have f1_0 := Bags.cell (v := .int .u64 (hiZ (b))) gx (i := 1) rfl 0 rfl; have f1_1 := Bags.cell (v := .int .u64 (loZ (b))) gx (i := 1) rfl 1 rfl; have f2_0 := Bags.cell (v := .int .u64 (hiZ (rn))) gx (i := 2) rfl 0 rfl; have f2_1 := Bags.cell (v := .int .u64 (loZ (rn))) gx (i := 2) rfl 1 rfl; have f2_2 := Bags.cell (v := .int .u64 (hiZ (rd))) gx (i := 2) rfl 2 rfl; have f2_3 := Bags.cell (v := .int .u64 (loZ (rd))) gx (i := 2) rfl 3 rfl; have f3_0 := Bags.cell (v := .int .u64 (hiZ (rn))) gx (i := 3) rfl 0 rfl; have f3_1 := Bags.cell (v := .int .u64 (loZ (rn))) gx (i := 3) rfl 1 rfl; have f3_2 := Bags.cell (v := .int .u64 (hiZ (rd))) gx (i := 3) rfl 2 rfl; have f3_3 := Bags.cell (v := .int .u64 (loZ (rd))) gx (i := 3) rfl 3 rfl; have f4_0 := Bags.cell (v := .int .u64 (hiZ (tn))) gx (i := 4) rfl 0 rfl; have f4_1 := Bags.cell (v := .int .u64 (loZ (tn))) gx (i := 4) rfl 1 rfl; have f4_2 := Bags.cell (v := .int .u64 (hiZ (td))) gx (i := 4) rfl 2 rfl; have f4_3 := Bags.cell (v := .int .u64 (loZ (td))) gx (i := 4) rfl 3 rfl; have f5_0 := Bags.cell (v := .int .u64 (hiZ (tn))) gx (i := 5) rfl 0 rfl; have f5_1 := Bags.cell (v := .int .u64 (loZ (tn))) gx (i := 5) rfl 1 rfl; have f5_2 := Bags.cell (v := .int .u64 (hiZ (td))) gx (i := 5) rfl 2 rfl; have f5_3 := Bags.cell (v := .int .u64 (loZ (td))) gx (i := 5) rfl 3 rfl; have f6_0 := Bags.cell (v := .int .u64 (hiZ (a))) gx (i := 6) rfl 0 rfl; have f6_1 := Bags.cell (v := .int .u64 (loZ (a))) gx (i := 6) rfl 1 rfl; have f6_2 := Bags.cell (v := .int .u64 (hiZ (b))) gx (i := 6) rfl 2 rfl; have f6_3 := Bags.cell (v := .int .u64 (loZ (b))) gx (i := 6) rfl 3 rfl; have f7_0 := Bags.cell (v := .int .u64 (hiZ (fn))) gx (i := 7) rfl 0 rfl; have f7_1 := Bags.cell (v := .int .u64 (loZ (fn))) gx (i := 7) rfl 1 rfl; have f8_0 := Bags.cell (v := .int .u64 (hiZ (fn))) gx (i := 8) rfl 0 rfl; have f8_1 := Bags.cell (v := .int .u64 (loZ (fn))) gx (i := 8) rfl 1 rfl)))
  go_wp2_with fail
  go_ret
  exact ⟨rfl, by assumption⟩
end Go.Proofs.YtnbchhjanlpdlaaDoor
