/-
  WALKS: plimsollref02: Reduce, Floor, Rate: what the document says of fractions.
-/
import Derived.Test.YtnbchhjanlpdlaaDoorQg
import Derived.Test.YtnbchhjanlpdlaaDoorRate
namespace Go.Proofs.YtnbchhjanlpdlaaDoor
open Go Go.RowKit

/-- The live blocks. -/
def Bags (L : List (Nat × Array Value × TypeId)) (w : World) : Prop := ∀ (i : Nat) (t : Nat × Array Value × TypeId), L[i]? = some t → w.heap[t.1]? = some (.cells t.2.1 t.2.2 (0, 0))
section
variable {L : List (Nat × Array Value × TypeId)} {w w' : World}
theorem Bags.at (h : Bags L w) {i g : Nat} {cs : Array Value} {T : TypeId} (e : L[i]? = some (g, cs, T)) : w.heap[g]? = some (.cells cs T (0, 0)) := h i _ e
theorem Bags.cell (h : Bags L w) {i g : Nat} {cs : Array Value} {T : TypeId} (e : L[i]? = some (g, cs, T)) (j : Nat) {v : Value} (hv : cs[j]? = some v) : w.cell? ⟨g, j, none⟩ = some v := by rw [cell_blk (h.at e), hv]
theorem Bags.free (h : Bags L w) {i g : Nat} {cs : Array Value} {T : TypeId} (e : L[i]? = some (g, cs, T)) (j : Nat) : w.frozen? ⟨g, j, none⟩ = false := free_blk (h.at e) j
theorem Bags.lt (h : Bags L w) {i g : Nat} {cs : Array Value} {T : TypeId} (e : L[i]? = some (g, cs, T)) : g < w.heap.size := blk_lt (h.at e)
theorem Bags.nil (w : World) : Bags [] w := fun i t h => by simp at h
theorem Bags.keep (h : Bags L w) (hb : Below w.heap.size w w') : Bags L w' := fun i t e => by rw [hb.block _ (blk_lt (h i t e))]; exact h i t e
theorem Bags.drew (h : Bags L w) : Bags L w.drew := fun i t e => h i t e
theorem Bags.drewN {n : Nat} (h : Bags L w) : Bags L (w.drewN n) := fun i t e => h i t e
theorem Bags.push (h : Bags L w) {g : Nat} (hg : g = w.heap.size) (cs : Array Value) (T : TypeId) : Bags (L ++ [(g, cs, T)]) (w.alloc (.cells cs T)) := fun i t e => by
  rcases Nat.lt_or_ge i L.length with hi | hi
  · rw [List.getElem?_append_left hi] at e
    exact h.keep ((Below.refl _ _).alloc (Nat.le_refl _) _) i t e
  · rw [List.getElem?_append_right hi] at e
    have h0 : i - L.length = 0 := by
      rcases Nat.eq_zero_or_pos (i - L.length) with h | h
      · exact h
      · rw [List.getElem?_eq_none (by simp; omega)] at e; cases e
    rw [h0] at e
    simp at e
    subst e hg
    show (w.heap.push _)[w.heap.size]? = _
    rw [Array.getElem?_push, if_pos rfl]
theorem Bags.blk4 (h : Bags L w) {i g : Nat} {a b c d : Int} (e : L[i]? = some (g, #[.int .u64 a, .int .u64 b, .int .u64 c, .int .u64 d], 41)) : Blk4 w g a b c d := ⟨h.at e⟩
theorem Bags.blk2 (h : Bags L w) {i g : Nat} {a b : Int} (e : L[i]? = some (g, #[.int .u64 a, .int .u64 b], 24)) : Blk2 w g a b := ⟨h.at e⟩
end
set_option maxHeartbeats 4000000 in
set_option maxRecDepth 100000 in
theorem rreduce_zero (n d : U) (hd : d.n = 0) (w : World) :
    Calls Tryd.prog 26 #[.agg #[.int .u64 (hiZ n), .int .u64 (loZ n)], .agg #[.int .u64 (hiZ d), .int .u64 (loZ d)]] w fun e w' =>
      e = .returned (.tuple #[.agg #[.int .u64 0, .int .u64 0, .int .u64 0, .int .u64 0], .int .i64 1]) ∧ Below w.heap.size w w' := by
  obtain ⟨z0, z1⟩ := (zero_iff d).2 hd
  rw [z0, z1]
  clear z0 z1 hd
  go_enter Tryd.func26, Tryd.ntmps26
  go_wp2_with fail
  refine bodyPost_ret (v := .tuple #[.agg #[.int .u64 0, .int .u64 0, .int .u64 0, .int .u64 0], .int .i64 1]) (by simp [results, Tryd.results26, go_sem]) rfl ?_
  exact ⟨rfl, by go_grown⟩

set_option maxHeartbeats 4000000 in
set_option maxRecDepth 100000 in
theorem rreduce (n d : U) (hd : d.n ≠ 0) (w : World) :
    Calls Tryd.prog 26 #[.agg #[.int .u64 (hiZ n), .int .u64 (loZ n)], .agg #[.int .u64 (hiZ d), .int .u64 (loZ d)]] w fun e w' =>
      e = .returned (.tuple #[.agg #[.int .u64 (hiZ (redN n d)), .int .u64 (loZ (redN n d)), .int .u64 (hiZ (redD n d)), .int .u64 (loZ (redD n d))], .int .i64 0]) ∧ Below w.heap.size w w' := by
  have he := eql_no (x := hiZ d) (y := loZ d) (x' := 0) (y' := 0) (fun h => hd ((zero_iff d).1 h))
  have HG := Lib.hid (gcd_pos (n := n) hd)
  clear hd
  go_enter Tryd.func26, Tryd.ntmps26
  go_upto_region 1 with fail
  obtain ⟨w0, hw0⟩ : ∃ x, x = (((w.alloc (.cells #[.int .u64 (hiZ (n)), .int .u64 (loZ (n))] 24)).alloc (.cells #[.int .u64 (hiZ (d)), .int .u64 (loZ (d))] 24)).alloc (.cells #[.int .u64 0, .int .u64 0, .int .u64 0, .int .u64 0] 41)) := ⟨_, rfl⟩
  obtain ⟨p0, hp0⟩ : ∃ x, x = w.heap.size := ⟨_, rfl⟩
  obtain ⟨p1, hp1⟩ : ∃ x, x = w.heap.size + 1 := ⟨_, rfl⟩
  obtain ⟨p2, hp2⟩ : ∃ x, x = w.heap.size + 1 + 1 := ⟨_, rfl⟩
  have G0 : Hid (Bags [(p0, #[.int .u64 (hiZ (n)), .int .u64 (loZ (n))], 24), (p1, #[.int .u64 (hiZ (d)), .int .u64 (loZ (d))], 24), (p2, #[.int .u64 0, .int .u64 0, .int .u64 0, .int .u64 0], 41)] w0) := by rw [hw0]; exact ((((Bags.nil w).push hp0 _ _).push (by simp [hp1]) _ _).push (by simp [hp2]) _ _)
  have U0 : Hid (Below w.heap.size w w0) := by rw [hw0]; exact (show Below w.heap.size w _ by go_grown)
  have LE : Hid (w.heap.size ≤ p0 ∧ w.heap.size ≤ p1 ∧ w.heap.size ≤ p2) := by refine ⟨?_, ?_, ?_⟩ <;> omega
  have ne01 : p0 ≠ p1 := by omega
  have ne02 : p0 ≠ p2 := by omega
  have ne12 : p1 ≠ p2 := by omega
  rw [← hw0, ← hp2, ← hp1, ← hp0]
  clear hw0 hp0 hp1 hp2
  have c0_0_0 := Bags.cell (v := .int .u64 (hiZ (n))) G0.out (i := 0) rfl 0 rfl
  have c0_1_0 := Bags.cell (v := .int .u64 (loZ (n))) G0.out (i := 0) rfl 1 rfl
  have l0_0 := Bags.lt G0.out (i := 0) rfl
  have c1_0_0 := Bags.cell (v := .int .u64 (hiZ (d))) G0.out (i := 1) rfl 0 rfl
  have c1_1_0 := Bags.cell (v := .int .u64 (loZ (d))) G0.out (i := 1) rfl 1 rfl
  have l1_0 := Bags.lt G0.out (i := 1) rfl
  go_wp2_with fail
  refine (rgcd n d _).mono ?_
  rintro e w1 ⟨rfl, hb1⟩
  have G1 : Hid (Bags [(p0, #[.int .u64 (hiZ (n)), .int .u64 (loZ (n))], 24), (p1, #[.int .u64 (hiZ (d)), .int .u64 (loZ (d))], 24), (p2, #[.int .u64 0, .int .u64 0, .int .u64 0, .int .u64 0], 41)] w1) := Bags.keep G0.out hb1
  have U1 : Hid (Below w.heap.size w w1) := below_of U0.out hb1
  clear hb1 c0_0_0 c0_1_0 l0_0 c1_0_0 c1_1_0 l1_0
  have c0_0_1 := Bags.cell (v := .int .u64 (hiZ (n))) G1.out (i := 0) rfl 0 rfl
  have c0_1_1 := Bags.cell (v := .int .u64 (loZ (n))) G1.out (i := 0) rfl 1 rfl
  have l0_1 := Bags.lt G1.out (i := 0) rfl
  have c1_0_1 := Bags.cell (v := .int .u64 (hiZ (d))) G1.out (i := 1) rfl 0 rfl
  have c1_1_1 := Bags.cell (v := .int .u64 (loZ (d))) G1.out (i := 1) rfl 1 rfl
  have l1_1 := Bags.lt G1.out (i := 1) rfl
  go_wp2_with fail
  refine (rwhole_at n (gcdW n d) HG.out _).mono ?_
  rintro e w2 ⟨rfl, hb2⟩
  have G2 : Hid (Bags [(p0, #[.int .u64 (hiZ (n)), .int .u64 (loZ (n))], 24), (p1, #[.int .u64 (hiZ (d)), .int .u64 (loZ (d))], 24), (p2, #[.int .u64 0, .int .u64 0, .int .u64 0, .int .u64 0], 41), (w1.heap.size, #[.int .u64 (hiZ (gcdW n d)), .int .u64 (loZ (gcdW n d))], 24)] w2) := Bags.keep (G1.out.push rfl _ _) hb2
  have U2 : Hid (Below w.heap.size w w2) := below_of (by have h := U1.out; have hz := h.size; go_grown) hb2
  clear hb2 c0_0_1 c0_1_1 l0_1 c1_0_1 c1_1_1 l1_1
  have c0_0_2 := Bags.cell (v := .int .u64 (hiZ (n))) G2.out (i := 0) rfl 0 rfl
  have c0_1_2 := Bags.cell (v := .int .u64 (loZ (n))) G2.out (i := 0) rfl 1 rfl
  have l0_2 := Bags.lt G2.out (i := 0) rfl
  have c1_0_2 := Bags.cell (v := .int .u64 (hiZ (d))) G2.out (i := 1) rfl 0 rfl
  have c1_1_2 := Bags.cell (v := .int .u64 (loZ (d))) G2.out (i := 1) rfl 1 rfl
  have l1_2 := Bags.lt G2.out (i := 1) rfl
  have c3_0_2 := Bags.cell (v := .int .u64 (hiZ (gcdW n d))) G2.out (i := 3) rfl 0 rfl
  have c3_1_2 := Bags.cell (v := .int .u64 (loZ (gcdW n d))) G2.out (i := 3) rfl 1 rfl
  have l3_2 := Bags.lt G2.out (i := 3) rfl
  go_wp2_with fail
  refine (rwhole_at d (gcdW n d) HG.out _).mono ?_
  rintro e w3 ⟨rfl, hb3⟩
  have G3 : Hid (Bags [(p0, #[.int .u64 (hiZ (n)), .int .u64 (loZ (n))], 24), (p1, #[.int .u64 (hiZ (d)), .int .u64 (loZ (d))], 24), (p2, #[.int .u64 0, .int .u64 0, .int .u64 0, .int .u64 0], 41), (w1.heap.size, #[.int .u64 (hiZ (gcdW n d)), .int .u64 (loZ (gcdW n d))], 24), (w2.heap.size, #[.int .u64 (hiZ (divW n (gcdW n d))), .int .u64 (loZ (divW n (gcdW n d)))], 24), (w2.heap.size + 1, #[.int .u64 (hiZ (modW n (gcdW n d))), .int .u64 (loZ (modW n (gcdW n d)))], 24)] w3) := Bags.keep ((G2.out.push rfl _ _).push (by simp) _ _) hb3
  have U3 : Hid (Below w.heap.size w w3) := below_of (by have h := U2.out; have hz := h.size; go_grown) hb3
  clear hb3 c0_0_2 c0_1_2 l0_2 c1_0_2 c1_1_2 l1_2 c3_0_2 c3_1_2 l3_2
  have c2_0_3 := Bags.cell (v := .int .u64 0) G3.out (i := 2) rfl 0 rfl
  have c2_1_3 := Bags.cell (v := .int .u64 0) G3.out (i := 2) rfl 1 rfl
  have c2_2_3 := Bags.cell (v := .int .u64 0) G3.out (i := 2) rfl 2 rfl
  have c2_3_3 := Bags.cell (v := .int .u64 0) G3.out (i := 2) rfl 3 rfl
  have l2_3 := Bags.lt G3.out (i := 2) rfl
  have f2_0_3 := Bags.free G3.out (i := 2) rfl 0
  have f2_1_3 := Bags.free G3.out (i := 2) rfl 1
  have f2_2_3 := Bags.free G3.out (i := 2) rfl 2
  have f2_3_3 := Bags.free G3.out (i := 2) rfl 3
  have c4_0_3 := Bags.cell (v := .int .u64 (hiZ (divW n (gcdW n d)))) G3.out (i := 4) rfl 0 rfl
  have c4_1_3 := Bags.cell (v := .int .u64 (loZ (divW n (gcdW n d)))) G3.out (i := 4) rfl 1 rfl
  have l4_3 := Bags.lt G3.out (i := 4) rfl
  have X2 := Lib.hid ((((G3.out.blk4 (i := 2) rfl).set (hiZ (divW n (gcdW n d))) (loZ (divW n (gcdW n d))) (hiZ (divW d (gcdW n d))) (loZ (divW d (gcdW n d)))).alloc (.cells #[.int .u64 (hiZ (divW d (gcdW n d))), .int .u64 (loZ (divW d (gcdW n d)))] 24)).alloc (.cells #[.int .u64 (hiZ (modW d (gcdW n d))), .int .u64 (loZ (modW d (gcdW n d)))] 24))
  go_wp2_with fail
  have y0 := X2.out.c0
  have y1 := X2.out.c1
  have y2 := X2.out.c2
  have y3 := X2.out.c3
  refine bodyPost_ret (v := .tuple #[.agg #[.int .u64 (hiZ (redN n d)), .int .u64 (loZ (redN n d)), .int .u64 (hiZ (redD n d)), .int .u64 (loZ (redD n d))], .int .i64 0]) (by simp [results, Tryd.results26, go_sem, y0, y1, y2, y3, redN, redD]) rfl ?_
  have h := U3.out
  have hz := h.size
  have hle := LE.out.2.2
  exact ⟨rfl, by go_grown⟩
theorem rreduce_at {n d : U} {h l : Int} (e1 : h = hiZ d) (e2 : l = loZ d) (hd : d.n ≠ 0) (w : World) :
    Calls Tryd.prog 26 #[.agg #[.int .u64 (hiZ n), .int .u64 (loZ n)], .agg #[.int .u64 h, .int .u64 l]] w fun e w' =>
      e = .returned (.tuple #[.agg #[.int .u64 (hiZ (redN n d)), .int .u64 (loZ (redN n d)), .int .u64 (hiZ (redD n d)), .int .u64 (loZ (redD n d))], .int .i64 0]) ∧ Below w.heap.size w w' := by
  subst e1 e2; exact rreduce n d hd w
end Go.Proofs.YtnbchhjanlpdlaaDoor
