/-
  WALKS: plimsollref02.Less: which of two fractions is less, by the bytes of the products.
-/
import Derived.Test.YtnbchhjanlpdlaaDoorQo
namespace Go.Proofs.YtnbchhjanlpdlaaDoor
open Go Go.RowKit

theorem prod_lt (a b : U) : a.n * b.n < 256 ^ 32 := by
  have h := Nat.mul_lt_mul_of_lt_of_le a.lt (Nat.le_of_lt b.lt) (show 0 < 340282366920938463463374607431768211456 by decide)
  exact h
theorem rover_t {x : Nat} (hx : x < 256 ^ 32) (h : 256 ^ 16 ≤ x) (w : World) :
    Calls Tryd.prog 52 #[.agg (A32 (byf x))] w fun e w' => e = .returned (.bool true) ∧ Below w.heap.size w w' := by
  have e : overB x = true := decide_eq_true h
  have := rover x hx w
  rwa [e] at this
theorem rover_f {x : Nat} (hx : x < 256 ^ 32) (h : ¬ 256 ^ 16 ≤ x) (w : World) :
    Calls Tryd.prog 52 #[.agg (A32 (byf x))] w fun e w' => e = .returned (.bool false) ∧ Below w.heap.size w w' := by
  have e : overB x = false := decide_eq_false h
  have := rover x hx w
  rwa [e] at this
/-- What holds when these operations have come up ('p, q := Product(..), Product(..)'). -/
structure LessJ (w0 : World) (p0 p1 : Nat) (a b c d : U) (W : World) (b0 b1 b2 b3 b4 b5 b6 b7 b8 b9 b10 b11 b12 b13 : Bool) (y0 y1 y2 y3 y4 y5 y6 y7 y8 y9 t6 t7 : Value) (g6 g7 : Nat) : Prop where
  below : Below w0.heap.size w0 W
  e0 : b0 = true → y0 = .pointer (some ⟨p0, 0, none⟩)
  e1 : b1 = true → y1 = .agg #[.int .u64 (hiZ a), .int .u64 (loZ a)]
  e2 : b2 = true → y2 = .pointer (some ⟨p1, 2, none⟩)
  e3 : b3 = true → y3 = .agg #[.int .u64 (hiZ d), .int .u64 (loZ d)]
  e4 : b4 = true → y4 = .agg (A32 (byf (a.n * d.n)))
  e5 : b5 = true → y5 = .pointer (some ⟨p1, 0, none⟩)
  e6 : b6 = true → y6 = .agg #[.int .u64 (hiZ c), .int .u64 (loZ c)]
  e7 : b7 = true → y7 = .pointer (some ⟨p0, 2, none⟩)
  e8 : b8 = true → y8 = .agg #[.int .u64 (hiZ b), .int .u64 (loZ b)]
  e9 : b9 = true → y9 = .agg (A32 (byf (c.n * b.n)))
  k6 : b10 = true → t6 = .pointer (some ⟨g6, 0, none⟩) ∧ w0.heap.size ≤ g6 ∧ ∃ f, Blk32 W g6 f ∧ (b12 = true → f = byf (a.n * d.n))
  k7 : b11 = true → t7 = .pointer (some ⟨g7, 0, none⟩) ∧ w0.heap.size ≤ g7 ∧ ∃ f, Blk32 W g7 f ∧ (b13 = true → f = byf (c.n * b.n))
  ne : b10 = true → b11 = true → g6 ≠ g7
  o6 : b12 = true → b10 = true
  o7 : b13 = true → b11 = true
section
variable {w0 W W' : World} {p0 p1 : Nat} {a b c d : U} {b0 b1 b2 b3 b4 b5 b6 b7 b8 b9 b10 b11 b12 b13 : Bool} {y0 y1 y2 y3 y4 y5 y6 y7 y8 y9 t6 t7 : Value} {g6 g7 : Nat}
theorem LessJ.grow (h : LessJ w0 p0 p1 a b c d W b0 b1 b2 b3 b4 b5 b6 b7 b8 b9 b10 b11 b12 b13 y0 y1 y2 y3 y4 y5 y6 y7 y8 y9 t6 t7 g6 g7) (hb : Below W.heap.size W W') : LessJ w0 p0 p1 a b c d W' b0 b1 b2 b3 b4 b5 b6 b7 b8 b9 b10 b11 b12 b13 y0 y1 y2 y3 y4 y5 y6 y7 y8 y9 t6 t7 g6 g7 :=
  ⟨below_of h.below hb, h.e0, h.e1, h.e2, h.e3, h.e4, h.e5, h.e6, h.e7, h.e8, h.e9, fun k => by obtain ⟨p, q, f, r, s⟩ := h.k6 k; exact ⟨p, q, f, r.keep hb, s⟩, fun k => by obtain ⟨p, q, f, r, s⟩ := h.k7 k; exact ⟨p, q, f, r.keep hb, s⟩, h.ne, h.o6, h.o7⟩
theorem LessJ.v0 (h : LessJ w0 p0 p1 a b c d W b0 b1 b2 b3 b4 b5 b6 b7 b8 b9 b10 b11 b12 b13 y0 y1 y2 y3 y4 y5 y6 y7 y8 y9 t6 t7 g6 g7) : LessJ w0 p0 p1 a b c d W true b1 b2 b3 b4 b5 b6 b7 b8 b9 b10 b11 b12 b13 (.pointer (some ⟨p0, 0, none⟩)) y1 y2 y3 y4 y5 y6 y7 y8 y9 t6 t7 g6 g7 := ⟨h.below, fun _ => rfl, h.e1, h.e2, h.e3, h.e4, h.e5, h.e6, h.e7, h.e8, h.e9, h.k6, h.k7, h.ne, h.o6, h.o7⟩
theorem LessJ.v1 (h : LessJ w0 p0 p1 a b c d W b0 b1 b2 b3 b4 b5 b6 b7 b8 b9 b10 b11 b12 b13 y0 y1 y2 y3 y4 y5 y6 y7 y8 y9 t6 t7 g6 g7) : LessJ w0 p0 p1 a b c d W b0 true b2 b3 b4 b5 b6 b7 b8 b9 b10 b11 b12 b13 y0 (.agg #[.int .u64 (hiZ a), .int .u64 (loZ a)]) y2 y3 y4 y5 y6 y7 y8 y9 t6 t7 g6 g7 := ⟨h.below, h.e0, fun _ => rfl, h.e2, h.e3, h.e4, h.e5, h.e6, h.e7, h.e8, h.e9, h.k6, h.k7, h.ne, h.o6, h.o7⟩
theorem LessJ.v2 (h : LessJ w0 p0 p1 a b c d W b0 b1 b2 b3 b4 b5 b6 b7 b8 b9 b10 b11 b12 b13 y0 y1 y2 y3 y4 y5 y6 y7 y8 y9 t6 t7 g6 g7) : LessJ w0 p0 p1 a b c d W b0 b1 true b3 b4 b5 b6 b7 b8 b9 b10 b11 b12 b13 y0 y1 (.pointer (some ⟨p1, 2, none⟩)) y3 y4 y5 y6 y7 y8 y9 t6 t7 g6 g7 := ⟨h.below, h.e0, h.e1, fun _ => rfl, h.e3, h.e4, h.e5, h.e6, h.e7, h.e8, h.e9, h.k6, h.k7, h.ne, h.o6, h.o7⟩
theorem LessJ.v3 (h : LessJ w0 p0 p1 a b c d W b0 b1 b2 b3 b4 b5 b6 b7 b8 b9 b10 b11 b12 b13 y0 y1 y2 y3 y4 y5 y6 y7 y8 y9 t6 t7 g6 g7) : LessJ w0 p0 p1 a b c d W b0 b1 b2 true b4 b5 b6 b7 b8 b9 b10 b11 b12 b13 y0 y1 y2 (.agg #[.int .u64 (hiZ d), .int .u64 (loZ d)]) y4 y5 y6 y7 y8 y9 t6 t7 g6 g7 := ⟨h.below, h.e0, h.e1, h.e2, fun _ => rfl, h.e4, h.e5, h.e6, h.e7, h.e8, h.e9, h.k6, h.k7, h.ne, h.o6, h.o7⟩
theorem LessJ.v4 (h : LessJ w0 p0 p1 a b c d W b0 b1 b2 b3 b4 b5 b6 b7 b8 b9 b10 b11 b12 b13 y0 y1 y2 y3 y4 y5 y6 y7 y8 y9 t6 t7 g6 g7) : LessJ w0 p0 p1 a b c d W b0 b1 b2 b3 true b5 b6 b7 b8 b9 b10 b11 b12 b13 y0 y1 y2 y3 (.agg (A32 (byf (a.n * d.n)))) y5 y6 y7 y8 y9 t6 t7 g6 g7 := ⟨h.below, h.e0, h.e1, h.e2, h.e3, fun _ => rfl, h.e5, h.e6, h.e7, h.e8, h.e9, h.k6, h.k7, h.ne, h.o6, h.o7⟩
theorem LessJ.v5 (h : LessJ w0 p0 p1 a b c d W b0 b1 b2 b3 b4 b5 b6 b7 b8 b9 b10 b11 b12 b13 y0 y1 y2 y3 y4 y5 y6 y7 y8 y9 t6 t7 g6 g7) : LessJ w0 p0 p1 a b c d W b0 b1 b2 b3 b4 true b6 b7 b8 b9 b10 b11 b12 b13 y0 y1 y2 y3 y4 (.pointer (some ⟨p1, 0, none⟩)) y6 y7 y8 y9 t6 t7 g6 g7 := ⟨h.below, h.e0, h.e1, h.e2, h.e3, h.e4, fun _ => rfl, h.e6, h.e7, h.e8, h.e9, h.k6, h.k7, h.ne, h.o6, h.o7⟩
theorem LessJ.v6 (h : LessJ w0 p0 p1 a b c d W b0 b1 b2 b3 b4 b5 b6 b7 b8 b9 b10 b11 b12 b13 y0 y1 y2 y3 y4 y5 y6 y7 y8 y9 t6 t7 g6 g7) : LessJ w0 p0 p1 a b c d W b0 b1 b2 b3 b4 b5 true b7 b8 b9 b10 b11 b12 b13 y0 y1 y2 y3 y4 y5 (.agg #[.int .u64 (hiZ c), .int .u64 (loZ c)]) y7 y8 y9 t6 t7 g6 g7 := ⟨h.below, h.e0, h.e1, h.e2, h.e3, h.e4, h.e5, fun _ => rfl, h.e7, h.e8, h.e9, h.k6, h.k7, h.ne, h.o6, h.o7⟩
theorem LessJ.v7 (h : LessJ w0 p0 p1 a b c d W b0 b1 b2 b3 b4 b5 b6 b7 b8 b9 b10 b11 b12 b13 y0 y1 y2 y3 y4 y5 y6 y7 y8 y9 t6 t7 g6 g7) : LessJ w0 p0 p1 a b c d W b0 b1 b2 b3 b4 b5 b6 true b8 b9 b10 b11 b12 b13 y0 y1 y2 y3 y4 y5 y6 (.pointer (some ⟨p0, 2, none⟩)) y8 y9 t6 t7 g6 g7 := ⟨h.below, h.e0, h.e1, h.e2, h.e3, h.e4, h.e5, h.e6, fun _ => rfl, h.e8, h.e9, h.k6, h.k7, h.ne, h.o6, h.o7⟩
theorem LessJ.v8 (h : LessJ w0 p0 p1 a b c d W b0 b1 b2 b3 b4 b5 b6 b7 b8 b9 b10 b11 b12 b13 y0 y1 y2 y3 y4 y5 y6 y7 y8 y9 t6 t7 g6 g7) : LessJ w0 p0 p1 a b c d W b0 b1 b2 b3 b4 b5 b6 b7 true b9 b10 b11 b12 b13 y0 y1 y2 y3 y4 y5 y6 y7 (.agg #[.int .u64 (hiZ b), .int .u64 (loZ b)]) y9 t6 t7 g6 g7 := ⟨h.below, h.e0, h.e1, h.e2, h.e3, h.e4, h.e5, h.e6, h.e7, fun _ => rfl, h.e9, h.k6, h.k7, h.ne, h.o6, h.o7⟩
theorem LessJ.v9 (h : LessJ w0 p0 p1 a b c d W b0 b1 b2 b3 b4 b5 b6 b7 b8 b9 b10 b11 b12 b13 y0 y1 y2 y3 y4 y5 y6 y7 y8 y9 t6 t7 g6 g7) : LessJ w0 p0 p1 a b c d W b0 b1 b2 b3 b4 b5 b6 b7 b8 true b10 b11 b12 b13 y0 y1 y2 y3 y4 y5 y6 y7 y8 (.agg (A32 (byf (c.n * b.n)))) t6 t7 g6 g7 := ⟨h.below, h.e0, h.e1, h.e2, h.e3, h.e4, h.e5, h.e6, h.e7, h.e8, fun _ => rfl, h.k6, h.k7, h.ne, h.o6, h.o7⟩
theorem LessJ.a6 (h : LessJ w0 p0 p1 a b c d W b0 b1 b2 b3 b4 b5 b6 b7 b8 b9 false b11 b12 b13 y0 y1 y2 y3 y4 y5 y6 y7 y8 y9 t6 t7 g6 g7) : LessJ w0 p0 p1 a b c d (W.alloc (.cells (A32 z16) 63)) b0 b1 b2 b3 b4 b5 b6 b7 b8 b9 true b11 b12 b13 y0 y1 y2 y3 y4 y5 y6 y7 y8 y9 (.pointer (some ⟨W.heap.size, 0, none⟩)) t7 W.heap.size g7 := by
  have h' := h.grow ((Below.refl W.heap.size W).alloc (Nat.le_refl _) (.cells (A32 z16) 63))
  refine ⟨h'.below, h'.e0, h'.e1, h'.e2, h'.e3, h'.e4, h'.e5, h'.e6, h'.e7, h'.e8, h'.e9, fun _ => ⟨rfl, h.below.size, z16, Blk32.new_at _ _ rfl, fun k => ?_⟩, h'.k7, fun _ k => ?_, fun _ => rfl, h'.o7⟩
  · have := h.o6 k; cases this
  · obtain ⟨_, _, f, r, _⟩ := h.k7 k
    have := r.lt; omega
theorem LessJ.a7 (h : LessJ w0 p0 p1 a b c d W b0 b1 b2 b3 b4 b5 b6 b7 b8 b9 b10 false b12 b13 y0 y1 y2 y3 y4 y5 y6 y7 y8 y9 t6 t7 g6 g7) : LessJ w0 p0 p1 a b c d (W.alloc (.cells (A32 z16) 63)) b0 b1 b2 b3 b4 b5 b6 b7 b8 b9 b10 true b12 b13 y0 y1 y2 y3 y4 y5 y6 y7 y8 y9 t6 (.pointer (some ⟨W.heap.size, 0, none⟩)) g6 W.heap.size := by
  have h' := h.grow ((Below.refl W.heap.size W).alloc (Nat.le_refl _) (.cells (A32 z16) 63))
  refine ⟨h'.below, h'.e0, h'.e1, h'.e2, h'.e3, h'.e4, h'.e5, h'.e6, h'.e7, h'.e8, h'.e9, h'.k6, fun _ => ⟨rfl, h.below.size, z16, Blk32.new_at _ _ rfl, fun k => ?_⟩, fun k _ => ?_, h'.o6, fun _ => rfl⟩
  · have := h.o7 k; cases this
  · obtain ⟨_, _, f, r, _⟩ := h.k6 k
    have := r.lt; omega
theorem LessJ.s6 (h : LessJ w0 p0 p1 a b c d W b0 b1 b2 b3 b4 b5 b6 b7 b8 b9 true true b12 b13 y0 y1 y2 y3 y4 y5 y6 y7 y8 y9 t6 t7 g6 g7) : LessJ w0 p0 p1 a b c d (W.setCells g6 0 (A32 (byf (a.n * d.n))).toList) b0 b1 b2 b3 b4 b5 b6 b7 b8 b9 true true true b13 y0 y1 y2 y3 y4 y5 y6 y7 y8 y9 t6 t7 g6 g7 := by
  obtain ⟨p, q, f, r, s⟩ := h.k6 rfl
  obtain ⟨p', q', f', r', s'⟩ := h.k7 rfl
  have hne := h.ne rfl rfl
  exact ⟨below_setCells32 h.below q, h.e0, h.e1, h.e2, h.e3, h.e4, h.e5, h.e6, h.e7, h.e8, h.e9, fun _ => ⟨p, q, _, r.setCells _, fun _ => rfl⟩, fun _ => ⟨p', q', f', r'.setCells_other (Ne.symm hne), s'⟩, h.ne, fun _ => rfl, h.o7⟩
theorem LessJ.s7 (h : LessJ w0 p0 p1 a b c d W b0 b1 b2 b3 b4 b5 b6 b7 b8 b9 true true b12 b13 y0 y1 y2 y3 y4 y5 y6 y7 y8 y9 t6 t7 g6 g7) : LessJ w0 p0 p1 a b c d (W.setCells g7 0 (A32 (byf (c.n * b.n))).toList) b0 b1 b2 b3 b4 b5 b6 b7 b8 b9 true true b12 true y0 y1 y2 y3 y4 y5 y6 y7 y8 y9 t6 t7 g6 g7 := by
  obtain ⟨p, q, f, r, s⟩ := h.k6 rfl
  obtain ⟨p', q', f', r', s'⟩ := h.k7 rfl
  have hne := h.ne rfl rfl
  exact ⟨below_setCells32 h.below q', h.e0, h.e1, h.e2, h.e3, h.e4, h.e5, h.e6, h.e7, h.e8, h.e9, fun _ => ⟨p, q, f, r.setCells_other hne, s⟩, fun _ => ⟨p', q', _, r'.setCells _, fun _ => rfl⟩, h.ne, h.o6, fun _ => rfl⟩
end
theorem top_none32 {x : Nat} (h : x < 256 ^ 32) : x / 256 ^ 32 = 0 := Nat.div_eq_of_lt h

set_option maxHeartbeats 8000000 in
set_option maxRecDepth 100000 in
theorem rfless_good (a b c d : U) (h1 : redB a b = true) (h2 : redB c d = true) (w : World) (hone : OneW w) :
    Calls Tryd.prog 39 #[.agg #[.int .u64 (hiZ a), .int .u64 (loZ a), .int .u64 (hiZ b), .int .u64 (loZ b)], .agg #[.int .u64 (hiZ c), .int .u64 (loZ c), .int .u64 (hiZ d), .int .u64 (loZ d)]] w fun e w' =>
      e = .returned (.tuple #[.bool (lessFB a b c d), .int .i64 (lessFE a b c d)]) ∧ Below w.heap.size w w' := by
  have HO := Lib.hid hone
  clear hone
  have H1 := Lib.hid h1
  have H2 := Lib.hid h2
  have k1 := check_yes h1
  have k2 := check_yes h2
  clear h1 h2
  go_enter Tryd.func39, Tryd.ntmps39
  go_upto_region 1 with fail
  obtain ⟨w0, hw0⟩ : ∃ x, x = ((w.alloc (.cells #[.int .u64 (hiZ (a)), .int .u64 (loZ (a)), .int .u64 (hiZ (b)), .int .u64 (loZ (b))] 41)).alloc (.cells #[.int .u64 (hiZ (c)), .int .u64 (loZ (c)), .int .u64 (hiZ (d)), .int .u64 (loZ (d))] 41)) := ⟨_, rfl⟩
  obtain ⟨p0, hp0⟩ : ∃ x, x = w.heap.size := ⟨_, rfl⟩
  obtain ⟨p1, hp1⟩ : ∃ x, x = w.heap.size + 1 := ⟨_, rfl⟩
  have G0 : Hid (Bags [(p0, #[.int .u64 (hiZ (a)), .int .u64 (loZ (a)), .int .u64 (hiZ (b)), .int .u64 (loZ (b))], 41), (p1, #[.int .u64 (hiZ (c)), .int .u64 (loZ (c)), .int .u64 (hiZ (d)), .int .u64 (loZ (d))], 41)] w0) := by rw [hw0]; exact (((Bags.nil w).push hp0 _ _).push (by simp [hp1]) _ _)
  have U0 : Hid (Below w.heap.size w w0) := by rw [hw0]; exact (show Below w.heap.size w _ by go_grown)
  have LE : Hid (w.heap.size ≤ p0 ∧ w.heap.size ≤ p1) := by refine ⟨?_, ?_⟩ <;> omega
  have ne01 : p0 ≠ p1 := by omega
  rw [← hw0, ← hp1, ← hp0]
  clear hw0 hp0 hp1
  have c0_0_0 := Bags.cell (v := .int .u64 (hiZ (a))) G0.out (i := 0) rfl 0 rfl
  have c0_1_0 := Bags.cell (v := .int .u64 (loZ (a))) G0.out (i := 0) rfl 1 rfl
  have c0_2_0 := Bags.cell (v := .int .u64 (hiZ (b))) G0.out (i := 0) rfl 2 rfl
  have c0_3_0 := Bags.cell (v := .int .u64 (loZ (b))) G0.out (i := 0) rfl 3 rfl
  have l0_0 := Bags.lt G0.out (i := 0) rfl
  go_wp2_with fail
  refine (rcheck a b _ (HO.out.keep U0.out)).mono ?_
  rintro e w1 ⟨rfl, hb1⟩
  have G1 : Hid (Bags [(p0, #[.int .u64 (hiZ (a)), .int .u64 (loZ (a)), .int .u64 (hiZ (b)), .int .u64 (loZ (b))], 41), (p1, #[.int .u64 (hiZ (c)), .int .u64 (loZ (c)), .int .u64 (hiZ (d)), .int .u64 (loZ (d))], 41)] w1) := Bags.keep G0.out hb1
  have U1 : Hid (Below w.heap.size w w1) := below_of U0.out hb1
  clear hb1 c0_0_0 c0_1_0 c0_2_0 c0_3_0 l0_0
  have c1_0_1 := Bags.cell (v := .int .u64 (hiZ (c))) G1.out (i := 1) rfl 0 rfl
  have c1_1_1 := Bags.cell (v := .int .u64 (loZ (c))) G1.out (i := 1) rfl 1 rfl
  have c1_2_1 := Bags.cell (v := .int .u64 (hiZ (d))) G1.out (i := 1) rfl 2 rfl
  have c1_3_1 := Bags.cell (v := .int .u64 (loZ (d))) G1.out (i := 1) rfl 3 rfl
  have l1_1 := Bags.lt G1.out (i := 1) rfl
  go_wp2_with fail
  refine (rcheck c d _ (HO.out.keep U1.out)).mono ?_
  rintro e w2 ⟨rfl, hb2⟩
  have G2 : Hid (Bags [(p0, #[.int .u64 (hiZ (a)), .int .u64 (loZ (a)), .int .u64 (hiZ (b)), .int .u64 (loZ (b))], 41), (p1, #[.int .u64 (hiZ (c)), .int .u64 (loZ (c)), .int .u64 (hiZ (d)), .int .u64 (loZ (d))], 41)] w2) := Bags.keep G1.out hb2
  have U2 : Hid (Below w.heap.size w w2) := below_of U1.out hb2
  clear hb2 c1_0_1 c1_1_1 c1_2_1 c1_3_1 l1_1
  go_upto_region 3 with fail
  have KA := Lib.hid (G2.out.blk4 (i := 0) rfl)
  have KC := Lib.hid (G2.out.blk4 (i := 1) rfl)
  refine wp_region_inv (J := fun listed act W => ∃ (b0 b1 b2 b3 b4 b5 b6 b7 b8 b9 b10 b11 b12 b13 : Bool) (y0 y1 y2 y3 y4 y5 y6 y7 y8 y9 t6 t7 : Value) (g6 g7 : Nat), listed = #[b0, b1, b2, b3, b4, b5, b6, b7, b8, b9, b10, b11, b12, b13] ∧ act = { tmps := #[.agg #[.int .u64 (hiZ a), .int .u64 (loZ a), .int .u64 (hiZ b), .int .u64 (loZ b)], .agg #[.int .u64 (hiZ c), .int .u64 (loZ c), .int .u64 (hiZ d), .int .u64 (loZ d)], .pointer (some ⟨p0, 0, none⟩), .pointer (some ⟨p1, 0, none⟩), .bool false, .int .i64 0, t6, t7, undef, .agg #[.int .u64 (hiZ a), .int .u64 (loZ a), .int .u64 (hiZ b), .int .u64 (loZ b)], .int .i64 0, .bool false, .bool false, .agg #[.int .u64 (hiZ c), .int .u64 (loZ c), .int .u64 (hiZ d), .int .u64 (loZ d)], .int .i64 0, .bool false, .bool false, y0, y1, y2, y3, y4, y5, y6, y7, y8, y9, undef, undef, undef, undef, undef, undef, undef, undef, undef, undef, undef, undef, undef, undef, undef, undef, undef, undef, undef, undef, undef, undef, undef, undef], defers := [] } ∧ LessJ w2 p0 p1 a b c d W b0 b1 b2 b3 b4 b5 b6 b7 b8 b9 b10 b11 b12 b13 y0 y1 y2 y3 y4 y5 y6 y7 y8 y9 t6 t7 g6 g7) (by kernel_rfl) ⟨false, false, false, false, false, false, false, false, false, false, false, false, false, false, undef, undef, undef, undef, undef, undef, undef, undef, undef, undef, undef, undef, 0, 0, rfl, rfl, ⟨(Below.refl _ _).drew, nofun, nofun, nofun, nofun, nofun, nofun, nofun, nofun, nofun, nofun, nofun, nofun, nofun, nofun, nofun⟩⟩ ?_ ?_
  · intro listed act W i hJ hi
    obtain ⟨b0, b1, b2, b3, b4, b5, b6, b7, b8, b9, b10, b11, b12, b13, y0, y1, y2, y3, y4, y5, y6, y7, y8, y9, t6, t7, g6, g7, rfl, rfl, hJ⟩ := hJ
    have HJ := Lib.hid hJ
    obtain ⟨hi1, hi2, hi3⟩ := ready_spec hi
    clear hJ hi
    have hi4 : i < 14 := hi1
    clear hi1
    have hcase : i = 0 ∨ i = 1 ∨ i = 2 ∨ i = 3 ∨ i = 4 ∨ i = 5 ∨ i = 6 ∨ i = 7 ∨ i = 8 ∨ i = 9 ∨ i = 10 ∨ i = 11 ∨ i = 12 ∨ i = 13 := by omega
    clear hi4
    rcases hcase with rfl | rfl | rfl | rfl | rfl | rfl | rfl | rfl | rfl | rfl | rfl | rfl | rfl | rfl
    · refine wpOp_step (o := _) rfl (fun K hK => ?_)
      have HK := Lib.hid hK
      clear hK
      clear hi3 hi2
      go_simp
      exact HK.out _ _ ⟨_, _, _, _, _, _, _, _, _, _, _, _, _, _, _, _, _, _, _, _, _, _, _, _, _, _, _, _, rfl, rfl, HJ.out.v0⟩
    · refine wpOp_step (o := _) rfl (fun K hK => ?_)
      have HK := Lib.hid hK
      clear hK
      have hd := hi3 _ rfl
      simp [Region.binds] at hd
      clear hi3 hi2
      have q0 : b0 = true := by (cases b0 with | true => rfl | false => simp at hd)
      obtain rfl := HJ.out.e0 q0
      clear hd
      have c0 := (KA.out.keep HJ.out.below).c0
      have c1 := (KA.out.keep HJ.out.below).c1
      go_simp
      exact HK.out _ _ ⟨_, _, _, _, _, _, _, _, _, _, _, _, _, _, _, _, _, _, _, _, _, _, _, _, _, _, _, _, rfl, rfl, HJ.out.v1⟩
    · refine wpOp_step (o := _) rfl (fun K hK => ?_)
      have HK := Lib.hid hK
      clear hK
      clear hi3 hi2
      go_simp
      exact HK.out _ _ ⟨_, _, _, _, _, _, _, _, _, _, _, _, _, _, _, _, _, _, _, _, _, _, _, _, _, _, _, _, rfl, rfl, HJ.out.v2⟩
    · refine wpOp_step (o := _) rfl (fun K hK => ?_)
      have HK := Lib.hid hK
      clear hK
      have hd := hi3 _ rfl
      simp [Region.binds] at hd
      clear hi3 hi2
      have q2 : b2 = true := by (cases b2 with | true => rfl | false => simp at hd)
      obtain rfl := HJ.out.e2 q2
      clear hd
      have c0 := (KC.out.keep HJ.out.below).c2
      have c1 := (KC.out.keep HJ.out.below).c3
      go_simp
      exact HK.out _ _ ⟨_, _, _, _, _, _, _, _, _, _, _, _, _, _, _, _, _, _, _, _, _, _, _, _, _, _, _, _, rfl, rfl, HJ.out.v3⟩
    · refine wpOp_step (o := _) rfl (fun K hK => ?_)
      have HK := Lib.hid hK
      clear hK
      have hd := hi3 _ rfl
      simp [Region.binds] at hd
      clear hi3 hi2
      have q1 : b1 = true := by (cases b1 with | true => rfl | false => simp at hd)
      have q3 : b3 = true := by (cases b3 with | true => rfl | false => simp at hd)
      obtain rfl := HJ.out.e1 q1
      obtain rfl := HJ.out.e3 q3
      clear hd
      go_simp
      go_at_call 51
      refine (rproduct a d _).mono ?_
      rintro e wp ⟨rfl, hb⟩
      exact HK.out _ _ ⟨_, _, _, _, _, _, _, _, _, _, _, _, _, _, _, _, _, _, _, _, _, _, _, _, _, _, _, _, rfl, rfl, (HJ.out.grow hb).v4⟩
    · refine wpOp_step (o := _) rfl (fun K hK => ?_)
      have HK := Lib.hid hK
      clear hK
      clear hi3 hi2
      go_simp
      exact HK.out _ _ ⟨_, _, _, _, _, _, _, _, _, _, _, _, _, _, _, _, _, _, _, _, _, _, _, _, _, _, _, _, rfl, rfl, HJ.out.v5⟩
    · refine wpOp_step (o := _) rfl (fun K hK => ?_)
      have HK := Lib.hid hK
      clear hK
      have hd := hi3 _ rfl
      simp [Region.binds] at hd
      clear hi3 hi2
      have q5 : b5 = true := by (cases b5 with | true => rfl | false => simp at hd)
      obtain rfl := HJ.out.e5 q5
      clear hd
      have c0 := (KC.out.keep HJ.out.below).c0
      have c1 := (KC.out.keep HJ.out.below).c1
      go_simp
      exact HK.out _ _ ⟨_, _, _, _, _, _, _, _, _, _, _, _, _, _, _, _, _, _, _, _, _, _, _, _, _, _, _, _, rfl, rfl, HJ.out.v6⟩
    · refine wpOp_step (o := _) rfl (fun K hK => ?_)
      have HK := Lib.hid hK
      clear hK
      clear hi3 hi2
      go_simp
      exact HK.out _ _ ⟨_, _, _, _, _, _, _, _, _, _, _, _, _, _, _, _, _, _, _, _, _, _, _, _, _, _, _, _, rfl, rfl, HJ.out.v7⟩
    · refine wpOp_step (o := _) rfl (fun K hK => ?_)
      have HK := Lib.hid hK
      clear hK
      have hd := hi3 _ rfl
      simp [Region.binds] at hd
      clear hi3 hi2
      have q7 : b7 = true := by (cases b7 with | true => rfl | false => simp at hd)
      obtain rfl := HJ.out.e7 q7
      clear hd
      have c0 := (KA.out.keep HJ.out.below).c2
      have c1 := (KA.out.keep HJ.out.below).c3
      go_simp
      exact HK.out _ _ ⟨_, _, _, _, _, _, _, _, _, _, _, _, _, _, _, _, _, _, _, _, _, _, _, _, _, _, _, _, rfl, rfl, HJ.out.v8⟩
    · refine wpOp_step (o := _) rfl (fun K hK => ?_)
      have HK := Lib.hid hK
      clear hK
      have hd := hi3 _ rfl
      simp [Region.binds] at hd
      clear hi3 hi2
      have q6 : b6 = true := by (cases b6 with | true => rfl | false => simp at hd)
      have q8 : b8 = true := by (cases b8 with | true => rfl | false => simp at hd)
      obtain rfl := HJ.out.e6 q6
      obtain rfl := HJ.out.e8 q8
      clear hd
      go_simp
      go_at_call 51
      refine (rproduct c b _).mono ?_
      rintro e wp ⟨rfl, hb⟩
      exact HK.out _ _ ⟨_, _, _, _, _, _, _, _, _, _, _, _, _, _, _, _, _, _, _, _, _, _, _, _, _, _, _, _, rfl, rfl, (HJ.out.grow hb).v9⟩
    · refine wpOp_step (o := _) rfl (fun K hK => ?_)
      have HK := Lib.hid hK
      clear hK
      clear hi3
      obtain rfl : b10 = false := hi2
      go_simp
      exact HK.out _ _ ⟨_, _, _, _, _, _, _, _, _, _, _, _, _, _, _, _, _, _, _, _, _, _, _, _, _, _, _, _, rfl, rfl, HJ.out.a6⟩
    · refine wpOp_step (o := _) rfl (fun K hK => ?_)
      have HK := Lib.hid hK
      clear hK
      clear hi3
      obtain rfl : b11 = false := hi2
      go_simp
      exact HK.out _ _ ⟨_, _, _, _, _, _, _, _, _, _, _, _, _, _, _, _, _, _, _, _, _, _, _, _, _, _, _, _, rfl, rfl, HJ.out.a7⟩
    · refine wpOp_step (o := _) rfl (fun K hK => ?_)
      have HK := Lib.hid hK
      clear hK
      have hd := hi3 _ rfl
      simp [Region.binds] at hd
      clear hi3 hi2
      have q10 : b10 = true := by (cases b10 with | true => rfl | false => simp at hd)
      have q11 : b11 = true := by (cases b11 with | true => rfl | false => simp at hd)
      have q4 : b4 = true := by (cases b4 with | true => rfl | false => simp at hd)
      have q9 : b9 = true := by (cases b9 with | true => rfl | false => simp at hd)
      obtain rfl := HJ.out.e4 q4
      obtain ⟨hp, hq, f, hr, hs⟩ := HJ.out.k6 q10
      subst hp
      clear hd
      subst q10 q11
      rw [if_pos (by rfl)]
      refine wp_store_mid 63 _ _ rfl g6 0 (A32 (byf (a.n * d.n))) rfl rfl hr.there info32 (one32 _) ?_
      exact HK.out _ _ ⟨_, _, _, _, _, _, _, _, _, _, _, _, _, _, _, _, _, _, _, _, _, _, _, _, _, _, _, _, rfl, rfl, HJ.out.s6⟩
    · refine wpOp_step (o := _) rfl (fun K hK => ?_)
      have HK := Lib.hid hK
      clear hK
      have hd := hi3 _ rfl
      simp [Region.binds] at hd
      clear hi3 hi2
      have q10 : b10 = true := by (cases b10 with | true => rfl | false => simp at hd)
      have q11 : b11 = true := by (cases b11 with | true => rfl | false => simp at hd)
      have q4 : b4 = true := by (cases b4 with | true => rfl | false => simp at hd)
      have q9 : b9 = true := by (cases b9 with | true => rfl | false => simp at hd)
      obtain rfl := HJ.out.e9 q9
      obtain ⟨hp, hq, f, hr, hs⟩ := HJ.out.k7 q11
      subst hp
      clear hd
      subst q10 q11
      rw [if_pos (by rfl)]
      refine wp_store_mid 63 _ _ rfl g7 0 (A32 (byf (c.n * b.n))) rfl rfl hr.there info32 (one32 _) ?_
      exact HK.out _ _ ⟨_, _, _, _, _, _, _, _, _, _, _, _, _, _, _, _, _, _, _, _, _, _, _, _, _, _, _, _, rfl, rfl, HJ.out.s7⟩
  · intro listed act W hJ hr
    obtain ⟨b0, b1, b2, b3, b4, b5, b6, b7, b8, b9, b10, b11, b12, b13, y0, y1, y2, y3, y4, y5, y6, y7, y8, y9, t6, t7, g6, g7, rfl, rfl, hJ⟩ := hJ
    have HJ := Lib.hid hJ
    clear hJ
    have q0 : b0 = true := by
      cases b0 with
      | true => rfl
      | false =>
        have hm : 0 ∈ ([] : List Nat) := by rw [← hr]; exact ready_in (o := _) rfl rfl (by simp [Region.binds])
        cases hm
    subst q0
    have q1 : b1 = true := by
      cases b1 with
      | true => rfl
      | false =>
        have hm : 1 ∈ ([] : List Nat) := by rw [← hr]; exact ready_in (o := _) rfl rfl (by simp [Region.binds])
        cases hm
    subst q1
    have q2 : b2 = true := by
      cases b2 with
      | true => rfl
      | false =>
        have hm : 2 ∈ ([] : List Nat) := by rw [← hr]; exact ready_in (o := _) rfl rfl (by simp [Region.binds])
        cases hm
    subst q2
    have q3 : b3 = true := by
      cases b3 with
      | true => rfl
      | false =>
        have hm : 3 ∈ ([] : List Nat) := by rw [← hr]; exact ready_in (o := _) rfl rfl (by simp [Region.binds])
        cases hm
    subst q3
    have q4 : b4 = true := by
      cases b4 with
      | true => rfl
      | false =>
        have hm : 4 ∈ ([] : List Nat) := by rw [← hr]; exact ready_in (o := _) rfl rfl (by simp [Region.binds])
        cases hm
    subst q4
    have q5 : b5 = true := by
      cases b5 with
      | true => rfl
      | false =>
        have hm : 5 ∈ ([] : List Nat) := by rw [← hr]; exact ready_in (o := _) rfl rfl (by simp [Region.binds])
        cases hm
    subst q5
    have q6 : b6 = true := by
      cases b6 with
      | true => rfl
      | false =>
        have hm : 6 ∈ ([] : List Nat) := by rw [← hr]; exact ready_in (o := _) rfl rfl (by simp [Region.binds])
        cases hm
    subst q6
    have q7 : b7 = true := by
      cases b7 with
      | true => rfl
      | false =>
        have hm : 7 ∈ ([] : List Nat) := by rw [← hr]; exact ready_in (o := _) rfl rfl (by simp [Region.binds])
        cases hm
    subst q7
    have q8 : b8 = true := by
      cases b8 with
      | true => rfl
      | false =>
        have hm : 8 ∈ ([] : List Nat) := by rw [← hr]; exact ready_in (o := _) rfl rfl (by simp [Region.binds])
        cases hm
    subst q8
    have q9 : b9 = true := by
      cases b9 with
      | true => rfl
      | false =>
        have hm : 9 ∈ ([] : List Nat) := by rw [← hr]; exact ready_in (o := _) rfl rfl (by simp [Region.binds])
        cases hm
    subst q9
    have q10 : b10 = true := by
      cases b10 with
      | true => rfl
      | false =>
        have hm : 10 ∈ ([] : List Nat) := by rw [← hr]; exact ready_in (o := _) rfl rfl (by simp [Region.binds])
        cases hm
    subst q10
    have q11 : b11 = true := by
      cases b11 with
      | true => rfl
      | false =>
        have hm : 11 ∈ ([] : List Nat) := by rw [← hr]; exact ready_in (o := _) rfl rfl (by simp [Region.binds])
        cases hm
    subst q11
    have q12 : b12 = true := by
      cases b12 with
      | true => rfl
      | false =>
        have hm : 12 ∈ ([] : List Nat) := by rw [← hr]; exact ready_in (o := _) rfl rfl (by simp [Region.binds])
        cases hm
    subst q12
    have q13 : b13 = true := by
      cases b13 with
      | true => rfl
      | false =>
        have hm : 13 ∈ ([] : List Nat) := by rw [← hr]; exact ready_in (o := _) rfl rfl (by simp [Region.binds])
        cases hm
    subst q13
    clear hr
    obtain rfl := HJ.out.e0 rfl
    obtain rfl := HJ.out.e1 rfl
    obtain rfl := HJ.out.e2 rfl
    obtain rfl := HJ.out.e3 rfl
    obtain rfl := HJ.out.e4 rfl
    obtain rfl := HJ.out.e5 rfl
    obtain rfl := HJ.out.e6 rfl
    obtain rfl := HJ.out.e7 rfl
    obtain rfl := HJ.out.e8 rfl
    obtain rfl := HJ.out.e9 rfl
    obtain ⟨hp, hq, f, hr6, hs⟩ := HJ.out.k6 rfl
    obtain ⟨hp7, hq7, f7, hr7, hs7⟩ := HJ.out.k7 rfl
    obtain rfl := hs rfl
    obtain rfl := hs7 rfl
    subst hp hp7
    have HB := Lib.hid (below_of U2.out HJ.out.below)
    have H6 := Lib.hid hr6
    have H7 := Lib.hid hr7
    clear hs hs7 hr6 hr7 HJ hq hq7
    try dsimp only
    go_upto_region 4 with fail
    by_cases hp : 256 ^ 16 ≤ a.n * d.n
    · have HV := Lib.hid (lessF_over H1.out H2.out (fun h => absurd h.1 (Nat.not_lt.2 hp)))
      refine wp_region_list ?_
      refine wpList_load_mid rfl 63 _ rfl g6 0 rfl (A32 (byf (a.n * d.n))).toList _ H6.out.range Tryd.underlying63 rfl info32 ?_
      refine wpList_step (fun K hK => ?_)
      have HK := Lib.hid hK
      clear hK
      go_simp
      go_at_call 52
      refine (rover_t (prod_lt a d) hp _).mono ?_
      rintro e w3 ⟨rfl, hb3⟩
      refine HK.out _ _ ?_
      clear HK K
      have HB3 := Lib.hid (below_of HB.out hb3)
      clear hp hb3
      go_wp2_with fail
      go_ret2
      exact ⟨be_eq HV.out.1.symm HV.out.2.symm, HB3.out⟩
    · refine wp_region_list ?_
      refine wpList_load_mid rfl 63 _ rfl g6 0 rfl (A32 (byf (a.n * d.n))).toList _ H6.out.range Tryd.underlying63 rfl info32 ?_
      refine wpList_step (fun K hK => ?_)
      have HK := Lib.hid hK
      clear hK
      go_simp
      go_at_call 52
      refine (rover_f (prod_lt a d) hp _).mono ?_
      rintro e w3 ⟨rfl, hb3⟩
      refine HK.out _ _ ?_
      clear HK K
      have HB3 := Lib.hid (below_of HB.out hb3)
      have H63 := Lib.hid (H6.out.keep hb3)
      have H73 := Lib.hid (H7.out.keep hb3)
      clear hb3
      refine wpList_step (fun K hK => ?_)
      have HK := Lib.hid hK
      clear hK
      go_simp
      refine HK.out _ _ ?_
      clear HK K
      refine wpList_step (fun K hK => ?_)
      have HK := Lib.hid hK
      clear hK
      rw [if_pos (by rfl)]
      refine wp_load_mid 63 _ rfl g7 0 rfl (A32 (byf (c.n * b.n))).toList _ H73.out.range Tryd.underlying63 rfl info32 ?_
      refine HK.out _ _ ?_
      clear HK K
      by_cases hq : 256 ^ 16 ≤ c.n * b.n
      · have HV := Lib.hid (lessF_over H1.out H2.out (fun h => absurd h.2 (Nat.not_lt.2 hq)))
        refine wpList_step (fun K hK => ?_)
        have HK := Lib.hid hK
        clear hK
        go_simp
        go_at_call 52
        refine (rover_t (prod_lt c b) hq _).mono ?_
        rintro e w4 ⟨rfl, hb4⟩
        refine HK.out _ _ ?_
        clear HK K
        have HB4 := Lib.hid (below_of HB3.out hb4)
        clear hp hq hb4
        go_wp2_with fail
        go_ret2
        exact ⟨be_eq HV.out.1.symm HV.out.2.symm, HB4.out⟩
      · have hv := lessF_ok H1.out H2.out (Nat.not_le.1 hp) (Nat.not_le.1 hq)
        have hv2 : decide (a.n * d.n < c.n * b.n) = lessFB a b c d := by rw [← hv.1]; unfold lessB mulU; rw [cutU_n (Nat.not_le.1 hp), cutU_n (Nat.not_le.1 hq)]
        have HV := Lib.hid (And.intro hv2 hv.2)
        clear hv hv2
        refine wpList_step (fun K hK => ?_)
        have HK := Lib.hid hK
        clear hK
        go_simp
        go_at_call 52
        refine (rover_f (prod_lt c b) hq _).mono ?_
        rintro e w4 ⟨rfl, hb4⟩
        refine HK.out _ _ ?_
        clear HK K
        have HB4 := Lib.hid (below_of HB3.out hb4)
        have H64 := Lib.hid (H63.out.keep hb4)
        have H74 := Lib.hid (H73.out.keep hb4)
        clear hp hq hb4
        go_wp2_with fail
        go_loopw [8] (fun i wr => ((∃ j : Nat, j < 32 ∧ i = .int .i64 j ∧ a.n * d.n / 256 ^ (j + 1) = c.n * b.n / 256 ^ (j + 1)) ∨ (i = .int .i64 (-1) ∧ a.n * d.n = c.n * b.n)) ∧ Below w.heap.size w wr ∧ Blk32 wr g6 (byf (a.n * d.n)) ∧ Blk32 wr g7 (byf (c.n * b.n))) (fun i _ => (intOf i + 1).toNat)
        case atStart => exact ⟨Or.inl ⟨31, by omega, rfl, by rw [top_none32 (prod_lt a d), top_none32 (prod_lt c b)]⟩, HB4.out, H64.out, H74.out⟩
        case round =>
          obtain ⟨hrel, hI⟩ := hrel
          have HI := Lib.hid hI
          clear hI
          rcases hrel with ⟨j, hj, rfl, hab⟩ | ⟨rfl, hab⟩
          · have HAB := Lib.hid hab
            clear hab
            have e0 := HI.out.2.1.cell hj
            have e1 := HI.out.2.2.cell hj
            obtain ⟨u, hu⟩ : ∃ u, u = byt (a.n * d.n) j := ⟨_, rfl⟩
            obtain ⟨v, hv⟩ : ∃ v, v = byt (c.n * b.n) j := ⟨_, rfl⟩
            rw [show byf (a.n * d.n) j = ((byt (a.n * d.n) j : Nat) : Int) from rfl, ← hu] at e0
            rw [show byf (c.n * b.n) j = ((byt (c.n * b.n) j : Nat) : Int) from rfl, ← hv] at e1
            have HU := Lib.hid hu
            have HVV := Lib.hid hv
            clear hu hv
            by_cases huv : u = v
            · subst huv
              go_wp2_with fail
              go_quiet (fail)
              go_wp2_with fail
              go_roundw
              case rel =>
                refine ⟨?_, bdn HI.out.1, HI.out.2.1.drewN, HI.out.2.2.drewN⟩
                have hsm := top_same HAB.out (by rw [← HU.out, ← HVV.out])
                by_cases h0 : j = 0
                · subst h0
                  exact Or.inr ⟨rfl, by simpa using hsm⟩
                · obtain ⟨i, rfl⟩ : ∃ i, j = i + 1 := ⟨j - 1, by omega⟩
                  exact Or.inl ⟨i, by omega, by go_num, hsm⟩
              case measure => simp [intOf] <;> omega
            · have hne : ((u : Int) != (v : Int)) = true := by simp; omega
              go_wp2_with fail
              go_quiet (fail)
              go_wp2_with fail
              go_quiet (fail)
              go_wp2_with fail
              go_ret2
              refine ⟨be_eq ?_ HV.out.2.symm, bdn (bdn HI.out.1)⟩
              rw [← HV.out.1]
              have hu := HU.out
              have hv := HVV.out
              by_cases h : u < v
              · have := top_less HAB.out (by rw [← hu, ← hv]; exact h)
                simp [h, this]
              · have := top_less HAB.out.symm (by rw [← hu, ← hv]; omega)
                have h1 : ¬ a.n * d.n < c.n * b.n := by omega
                simp [h, h1]
          · have HAB := Lib.hid hab
            clear hab
            go_wp2_with fail
            go_ret2
            refine ⟨be_eq ?_ HV.out.2.symm, HI.out.1⟩
            rw [← HV.out.1]
            have := HAB.out
            simp; omega
end Go.Proofs.YtnbchhjanlpdlaaDoor
