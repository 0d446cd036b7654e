/-
  THE LAW plimsolllaw01.WideTells: the program's answers of wide are the document's: the walk: it answers true, of any two numbers and any number of 64 bits.
-/
import Derived.Test.YtnbchhjanlpdlaaDoorLives
import Derived.Test.YtnbchhjanlpdlaaDoorRv
namespace Go.Proofs.YtnbchhjanlpdlaaDoor
open Go Go.RowKit

/-- The live blocks of two numbers. -/
def Bag (L : List (Nat × Int × Int)) (w : World) : Prop := ∀ (i : Nat) (t : Nat × Int × Int), L[i]? = some t → Blk2 w t.1 t.2.1 t.2.2
theorem Bag.at {L : List (Nat × Int × Int)} {w : World} (h : Bag L w) {i : Nat} {g : Nat} {x y : Int} (e : L[i]? = some (g, x, y)) : Blk2 w g x y := h i _ e
theorem Bag.nil (w : World) : Bag [] w := fun i t h => by simp at h
theorem Bag.keep {L : List (Nat × Int × Int)} {w w' : World} (h : Bag L w) (hb : Below w.heap.size w w') : Bag L w' := fun i t e => (h i t e).keep hb
theorem Bag.drew {L : List (Nat × Int × Int)} {w : World} (h : Bag L w) : Bag L w.drew := fun i t e => (h i t e).drew
theorem Bag.drewN {L : List (Nat × Int × Int)} {w : World} {n : Nat} (h : Bag L w) : Bag L (w.drewN n) := fun i t e => (h i t e).drewN
theorem Bag.push {L : List (Nat × Int × Int)} {w : World} (h : Bag L w) {g : Nat} (hg : g = w.heap.size) (x y : Int) : Bag (L ++ [(g, x, y)]) (w.alloc (.cells #[.int .u64 x, .int .u64 y] 24)) := fun i t e => by
  rcases Nat.lt_or_ge i L.length with hi | hi
  · rw [List.getElem?_append_left hi] at e
    exact (h i t e).alloc _
  · rw [List.getElem?_append_right hi] at e
    have h0 : i - L.length = 0 := by
      rcases Nat.eq_zero_or_pos (i - L.length) with h | h
      · exact h
      · rw [List.getElem?_eq_none (by simp; omega)] at e; cases e
    rw [h0] at e
    simp at e
    subst e hg
    exact Blk2.new _ _ _
theorem we4r {q1 q2 r e q1' q2' r' e' : Int} (h1 : q1 = q1') (h2 : q2 = q2') (h3 : r = r') (h4 : e = e') : Ending.returned (.tuple #[.agg #[.int .u64 q1, .int .u64 q2], .int .u64 r, .int .i64 e]) = Ending.returned (.tuple #[.agg #[.int .u64 q1', .int .u64 q2'], .int .u64 r', .int .i64 e']) := by rw [h1, h2, h3, h4]

set_option maxHeartbeats 1000000 in
set_option maxRecDepth 100000 in
theorem rdiv_zero (a : U) (w : World) :
    Calls Tryd.prog 14 #[.agg #[.int .u64 (hiZ a), .int .u64 (loZ a)], .int .u64 0] w fun e w' =>
      e = .returned (.tuple #[.agg #[.int .u64 0, .int .u64 0], .int .u64 0, .int .i64 1]) ∧ Below w.heap.size w w' := by
  go_enter Tryd.func14, Tryd.ntmps14
  go_wp2_with fail
  refine bodyPost_ret (v := .tuple #[.agg #[.int .u64 0, .int .u64 0], .int .u64 0, .int .i64 1]) (by simp [results, Tryd.results14, go_sem]) rfl ?_
  exact ⟨rfl, by go_grown⟩
/-- Both answers, whatever the divisor. -/
theorem both_div (a : U) (k : Nat) (hk : k < 18446744073709551616) : ∃ (q : U) (r e : Int),
    (∀ w : World, Calls Tryd.prog 13 #[.agg #[.int .u64 (hiZ a), .int .u64 (loZ a)], .int .u64 k] w fun en w' => en = .returned (.tuple #[.agg #[.int .u64 (hiZ q), .int .u64 (loZ q)], .int .u64 r, .int .i64 e]) ∧ Below w.heap.size w w') ∧
    (∀ w : World, Calls Tryd.prog 14 #[.agg #[.int .u64 (hiZ a), .int .u64 (loZ a)], .int .u64 k] w fun en w' => en = .returned (.tuple #[.agg #[.int .u64 (hiZ q), .int .u64 (loZ q)], .int .u64 r, .int .i64 e]) ∧ Below w.heap.size w w') := by
  rcases Nat.eq_zero_or_pos k with h | h
  · subst h
    exact ⟨U.zero, 0, 1, fun w => wdiv_zero a w, fun w => rdiv_zero a w⟩
  · exact ⟨divU a k, remZ a k, 0, fun w => wdiv_any a k h hk w, fun w => rdiv a k h hk w⟩

set_option maxHeartbeats 8000000 in
set_option maxRecDepth 100000 in
theorem wtells_walk (a b : U) (k : Nat) (hk : k < 18446744073709551616) (w : World) (htab : tabs w) :
    Calls Tryd.prog 3 #[.agg #[.int .u64 (hiZ a), .int .u64 (loZ a)], .agg #[.int .u64 (hiZ b), .int .u64 (loZ b)], .int .u64 k] w fun e w' =>
      e = .returned (.bool true) ∧ Below w.heap.size w w' := by
  have HT := Lib.hid htab
  have HK := Lib.hid hk
  obtain ⟨q, r, ee, hd1, hd2⟩ := both_div a k hk
  have HD1 := Lib.hid hd1
  have HD2 := Lib.hid hd2
  clear htab hk hd1 hd2
  go_enter Tryd.func3, Tryd.ntmps3
  go_wp2_with fail
  refine (add_any a b _).mono ?_
  rintro e w1 ⟨rfl, hb1⟩
  have G1 : Hid (Bag [(w.heap.size, hiZ a, loZ a), (w.heap.size + 1, hiZ b, loZ b)] w1) := Bag.keep (((Bag.nil w).push rfl (hiZ a) (loZ a)).push (by simp) (hiZ b) (loZ b)) hb1
  have U1 : Hid (Below w.heap.size w w1) := below_of (by go_grown) hb1
  clear hb1
  have c0_1 := (Bag.at G1.out (i := 0) rfl).c0
  have d0_1 := (Bag.at G1.out (i := 0) rfl).c1
  have l0_1 := (Bag.at G1.out (i := 0) rfl).lt
  have c1_1 := (Bag.at G1.out (i := 1) rfl).c0
  have d1_1 := (Bag.at G1.out (i := 1) rfl).c1
  have l1_1 := (Bag.at G1.out (i := 1) rfl).lt
  go_wp2_with fail
  refine (radd a b _).mono ?_
  rintro e w2 ⟨rfl, hb2⟩
  have G2 : Hid (Bag [(w.heap.size, hiZ a, loZ a), (w.heap.size + 1, hiZ b, loZ b), (w1.heap.size, hiZ (addU a b), loZ (addU a b))] w2) := Bag.keep (G1.out.push rfl _ _) hb2
  have U2 : Hid (Below w.heap.size w w2) := below_of (U1.out.alloc U1.out.size _) hb2
  clear hb2 c0_1 d0_1 l0_1 c1_1 d1_1 l1_1
  have c0_2 := (Bag.at G2.out (i := 0) rfl).c0
  have d0_2 := (Bag.at G2.out (i := 0) rfl).c1
  have l0_2 := (Bag.at G2.out (i := 0) rfl).lt
  have c1_2 := (Bag.at G2.out (i := 1) rfl).c0
  have d1_2 := (Bag.at G2.out (i := 1) rfl).c1
  have l1_2 := (Bag.at G2.out (i := 1) rfl).lt
  go_wp2_with fail
  refine (sub_any a b _).mono ?_
  rintro e w3 ⟨rfl, hb3⟩
  have G3 : Hid (Bag [(w.heap.size, hiZ a, loZ a), (w.heap.size + 1, hiZ b, loZ b), (w1.heap.size, hiZ (addU a b), loZ (addU a b)), (w2.heap.size, hiZ (addU a b), loZ (addU a b))] w3) := Bag.keep (G2.out.push rfl _ _) hb3
  have U3 : Hid (Below w.heap.size w w3) := below_of (U2.out.alloc U2.out.size _) hb3
  clear hb3 c0_2 d0_2 l0_2 c1_2 d1_2 l1_2
  have c0_3 := (Bag.at G3.out (i := 0) rfl).c0
  have d0_3 := (Bag.at G3.out (i := 0) rfl).c1
  have l0_3 := (Bag.at G3.out (i := 0) rfl).lt
  have c1_3 := (Bag.at G3.out (i := 1) rfl).c0
  have d1_3 := (Bag.at G3.out (i := 1) rfl).c1
  have l1_3 := (Bag.at G3.out (i := 1) rfl).lt
  go_wp2_with fail
  refine (rsub a b _).mono ?_
  rintro e w4 ⟨rfl, hb4⟩
  have G4 : Hid (Bag [(w.heap.size, hiZ a, loZ a), (w.heap.size + 1, hiZ b, loZ b), (w1.heap.size, hiZ (addU a b), loZ (addU a b)), (w2.heap.size, hiZ (addU a b), loZ (addU a b)), (w3.heap.size, hiZ (subU a b), loZ (subU a b))] w4) := Bag.keep (G3.out.push rfl _ _) hb4
  have U4 : Hid (Below w.heap.size w w4) := below_of (U3.out.alloc U3.out.size _) hb4
  clear hb4 c0_3 d0_3 l0_3 c1_3 d1_3 l1_3
  have c0_4 := (Bag.at G4.out (i := 0) rfl).c0
  have d0_4 := (Bag.at G4.out (i := 0) rfl).c1
  have l0_4 := (Bag.at G4.out (i := 0) rfl).lt
  have c1_4 := (Bag.at G4.out (i := 1) rfl).c0
  have d1_4 := (Bag.at G4.out (i := 1) rfl).c1
  have l1_4 := (Bag.at G4.out (i := 1) rfl).lt
  go_wp2_with fail
  refine (times_any a k HK.out _).mono ?_
  rintro e w5 ⟨rfl, hb5⟩
  have G5 : Hid (Bag [(w.heap.size, hiZ a, loZ a), (w.heap.size + 1, hiZ b, loZ b), (w1.heap.size, hiZ (addU a b), loZ (addU a b)), (w2.heap.size, hiZ (addU a b), loZ (addU a b)), (w3.heap.size, hiZ (subU a b), loZ (subU a b)), (w4.heap.size, hiZ (subU a b), loZ (subU a b))] w5) := Bag.keep (G4.out.push rfl _ _) hb5
  have U5 : Hid (Below w.heap.size w w5) := below_of (U4.out.alloc U4.out.size _) hb5
  clear hb5 c0_4 d0_4 l0_4 c1_4 d1_4 l1_4
  have c0_5 := (Bag.at G5.out (i := 0) rfl).c0
  have d0_5 := (Bag.at G5.out (i := 0) rfl).c1
  have l0_5 := (Bag.at G5.out (i := 0) rfl).lt
  go_wp2_with fail
  refine (rtimes a k HK.out _).mono ?_
  rintro e w6 ⟨rfl, hb6⟩
  have G6 : Hid (Bag [(w.heap.size, hiZ a, loZ a), (w.heap.size + 1, hiZ b, loZ b), (w1.heap.size, hiZ (addU a b), loZ (addU a b)), (w2.heap.size, hiZ (addU a b), loZ (addU a b)), (w3.heap.size, hiZ (subU a b), loZ (subU a b)), (w4.heap.size, hiZ (subU a b), loZ (subU a b)), (w5.heap.size, hiZ (timesU a k), loZ (timesU a k))] w6) := Bag.keep (G5.out.push rfl _ _) hb6
  have U6 : Hid (Below w.heap.size w w6) := below_of (U5.out.alloc U5.out.size _) hb6
  clear hb6 c0_5 d0_5 l0_5
  have c0_6 := (Bag.at G6.out (i := 0) rfl).c0
  have d0_6 := (Bag.at G6.out (i := 0) rfl).c1
  have l0_6 := (Bag.at G6.out (i := 0) rfl).lt
  go_wp2_with fail
  refine (HD1.out _).mono ?_
  rintro e w7 ⟨rfl, hb7⟩
  have G7 : Hid (Bag [(w.heap.size, hiZ a, loZ a), (w.heap.size + 1, hiZ b, loZ b), (w1.heap.size, hiZ (addU a b), loZ (addU a b)), (w2.heap.size, hiZ (addU a b), loZ (addU a b)), (w3.heap.size, hiZ (subU a b), loZ (subU a b)), (w4.heap.size, hiZ (subU a b), loZ (subU a b)), (w5.heap.size, hiZ (timesU a k), loZ (timesU a k)), (w6.heap.size, hiZ (timesU a k), loZ (timesU a k))] w7) := Bag.keep (G6.out.push rfl _ _) hb7
  have U7 : Hid (Below w.heap.size w w7) := below_of (U6.out.alloc U6.out.size _) hb7
  clear hb7 c0_6 d0_6 l0_6
  have c0_7 := (Bag.at G7.out (i := 0) rfl).c0
  have d0_7 := (Bag.at G7.out (i := 0) rfl).c1
  have l0_7 := (Bag.at G7.out (i := 0) rfl).lt
  go_wp2_with fail
  refine (HD2.out _).mono ?_
  rintro e w8 ⟨rfl, hb8⟩
  have G8 : Hid (Bag [(w.heap.size, hiZ a, loZ a), (w.heap.size + 1, hiZ b, loZ b), (w1.heap.size, hiZ (addU a b), loZ (addU a b)), (w2.heap.size, hiZ (addU a b), loZ (addU a b)), (w3.heap.size, hiZ (subU a b), loZ (subU a b)), (w4.heap.size, hiZ (subU a b), loZ (subU a b)), (w5.heap.size, hiZ (timesU a k), loZ (timesU a k)), (w6.heap.size, hiZ (timesU a k), loZ (timesU a k)), (w7.heap.size, hiZ q, loZ q)] w8) := Bag.keep (G7.out.push rfl _ _) hb8
  have U8 : Hid (Below w.heap.size w w8) := below_of (U7.out.alloc U7.out.size _) hb8
  clear hb8 c0_7 d0_7 l0_7
  go_upto_region 9 with fail
  obtain ⟨wz, hwz⟩ : ∃ x, x = w8.alloc (.cells #[.int .u64 (hiZ q), .int .u64 (loZ q)] 24) := ⟨_, rfl⟩
  have GZ : Bag [(w.heap.size, hiZ a, loZ a), (w.heap.size + 1, hiZ b, loZ b), (w1.heap.size, hiZ (addU a b), loZ (addU a b)), (w2.heap.size, hiZ (addU a b), loZ (addU a b)), (w3.heap.size, hiZ (subU a b), loZ (subU a b)), (w4.heap.size, hiZ (subU a b), loZ (subU a b)), (w5.heap.size, hiZ (timesU a k), loZ (timesU a k)), (w6.heap.size, hiZ (timesU a k), loZ (timesU a k)), (w7.heap.size, hiZ q, loZ q), (w8.heap.size, hiZ q, loZ q)] wz.drew := by rw [hwz]; exact Bag.drew (G8.out.push rfl _ _)
  have UZ : Below w.heap.size w wz.drew := by rw [hwz]; exact (U8.out.alloc U8.out.size _).drew
  rw [← hwz]
  clear hwz G1 G2 G3 G4 G5 G6 G7 G8 U1 U2 U3 U4 U5 U6 U7 U8 HD1 HD2
  have f0 := (Bag.at GZ (i := 0) rfl).c0
  have g0 := (Bag.at GZ (i := 0) rfl).c1
  have f1 := (Bag.at GZ (i := 1) rfl).c0
  have g1 := (Bag.at GZ (i := 1) rfl).c1
  have f2 := (Bag.at GZ (i := 2) rfl).c0
  have g2 := (Bag.at GZ (i := 2) rfl).c1
  have f3 := (Bag.at GZ (i := 3) rfl).c0
  have g3 := (Bag.at GZ (i := 3) rfl).c1
  have f4 := (Bag.at GZ (i := 4) rfl).c0
  have g4 := (Bag.at GZ (i := 4) rfl).c1
  have f5 := (Bag.at GZ (i := 5) rfl).c0
  have g5 := (Bag.at GZ (i := 5) rfl).c1
  have f6 := (Bag.at GZ (i := 6) rfl).c0
  have g6 := (Bag.at GZ (i := 6) rfl).c1
  have f7 := (Bag.at GZ (i := 7) rfl).c0
  have g7 := (Bag.at GZ (i := 7) rfl).c1
  have f8 := (Bag.at GZ (i := 8) rfl).c0
  have g8 := (Bag.at GZ (i := 8) rfl).c1
  have f9 := (Bag.at GZ (i := 9) rfl).c0
  have g9 := (Bag.at GZ (i := 9) rfl).c1
  go_region_held3 (fun w' => w'.cell? ⟨w.heap.size, 0, none⟩ = some (.int .u64 (hiZ a)) ∧ w'.cell? ⟨w.heap.size, 1, none⟩ = some (.int .u64 (loZ a)) ∧ w'.cell? ⟨w.heap.size + 1, 0, none⟩ = some (.int .u64 (hiZ b)) ∧ w'.cell? ⟨w.heap.size + 1, 1, none⟩ = some (.int .u64 (loZ b)) ∧ w'.cell? ⟨w1.heap.size, 0, none⟩ = some (.int .u64 (hiZ (addU a b))) ∧ w'.cell? ⟨w1.heap.size, 1, none⟩ = some (.int .u64 (loZ (addU a b))) ∧ w'.cell? ⟨w2.heap.size, 0, none⟩ = some (.int .u64 (hiZ (addU a b))) ∧ w'.cell? ⟨w2.heap.size, 1, none⟩ = some (.int .u64 (loZ (addU a b))) ∧ w'.cell? ⟨w3.heap.size, 0, none⟩ = some (.int .u64 (hiZ (subU a b))) ∧ w'.cell? ⟨w3.heap.size, 1, none⟩ = some (.int .u64 (loZ (subU a b))) ∧ w'.cell? ⟨w4.heap.size, 0, none⟩ = some (.int .u64 (hiZ (subU a b))) ∧ w'.cell? ⟨w4.heap.size, 1, none⟩ = some (.int .u64 (loZ (subU a b))) ∧ w'.cell? ⟨w5.heap.size, 0, none⟩ = some (.int .u64 (hiZ (timesU a k))) ∧ w'.cell? ⟨w5.heap.size, 1, none⟩ = some (.int .u64 (loZ (timesU a k))) ∧ w'.cell? ⟨w6.heap.size, 0, none⟩ = some (.int .u64 (hiZ (timesU a k))) ∧ w'.cell? ⟨w6.heap.size, 1, none⟩ = some (.int .u64 (loZ (timesU a k))) ∧ w'.cell? ⟨w7.heap.size, 0, none⟩ = some (.int .u64 (hiZ q)) ∧ w'.cell? ⟨w7.heap.size, 1, none⟩ = some (.int .u64 (loZ q)) ∧ w'.cell? ⟨w8.heap.size, 0, none⟩ = some (.int .u64 (hiZ q)) ∧ w'.cell? ⟨w8.heap.size, 1, none⟩ = some (.int .u64 (loZ q))) (exact ⟨by assumption, by assumption, by assumption, by assumption, by assumption, by assumption, by assumption, by assumption, by assumption, by assumption, by assumption, by assumption, by assumption, by assumption, by assumption, by assumption, by assumption, by assumption, by assumption, by assumption⟩) ((first
    | (go_at_call 15; refine (lives_any _ (tabs_stays HT.out (by assumption))).mono ?_; rintro e wx ⟨rfl, hbx⟩; have gx := Bag.keep (by assumption) hbx; have ux : Below w.heap.size w wx := below_of (by assumption) hbx; clear hbx; have f0 := (Bag.at gx (i := 0) rfl).c0; have g0 := (Bag.at gx (i := 0) rfl).c1; have f1 := (Bag.at gx (i := 1) rfl).c0; have g1 := (Bag.at gx (i := 1) rfl).c1; have f2 := (Bag.at gx (i := 2) rfl).c0; have g2 := (Bag.at gx (i := 2) rfl).c1; have f3 := (Bag.at gx (i := 3) rfl).c0; have g3 := (Bag.at gx (i := 3) rfl).c1; have f4 := (Bag.at gx (i := 4) rfl).c0; have g4 := (Bag.at gx (i := 4) rfl).c1; have f5 := (Bag.at gx (i := 5) rfl).c0; have g5 := (Bag.at gx (i := 5) rfl).c1; have f6 := (Bag.at gx (i := 6) rfl).c0; have g6 := (Bag.at gx (i := 6) rfl).c1; have f7 := (Bag.at gx (i := 7) rfl).c0; have g7 := (Bag.at gx (i := 7) rfl).c1; have f8 := (Bag.at gx (i := 8) rfl).c0; have g8 := (Bag.at gx (i := 8) rfl).c1; have f9 := (Bag.at gx (i := 9) rfl).c0; have g9 := (Bag.at gx (i := 9) rfl).c1)
    | (go_at_call 16; refine (less_any a b _).mono ?_; rintro e wx ⟨rfl, hbx⟩; have gx := Bag.keep (by assumption) hbx; have ux : Below w.heap.size w wx := below_of (by assumption) hbx; clear hbx; have f0 := (Bag.at gx (i := 0) rfl).c0; have g0 := (Bag.at gx (i := 0) rfl).c1; have f1 := (Bag.at gx (i := 1) rfl).c0; have g1 := (Bag.at gx (i := 1) rfl).c1; have f2 := (Bag.at gx (i := 2) rfl).c0; have g2 := (Bag.at gx (i := 2) rfl).c1; have f3 := (Bag.at gx (i := 3) rfl).c0; have g3 := (Bag.at gx (i := 3) rfl).c1; have f4 := (Bag.at gx (i := 4) rfl).c0; have g4 := (Bag.at gx (i := 4) rfl).c1; have f5 := (Bag.at gx (i := 5) rfl).c0; have g5 := (Bag.at gx (i := 5) rfl).c1; have f6 := (Bag.at gx (i := 6) rfl).c0; have g6 := (Bag.at gx (i := 6) rfl).c1; have f7 := (Bag.at gx (i := 7) rfl).c0; have g7 := (Bag.at gx (i := 7) rfl).c1; have f8 := (Bag.at gx (i := 8) rfl).c0; have g8 := (Bag.at gx (i := 8) rfl).c1; have f9 := (Bag.at gx (i := 9) rfl).c0; have g9 := (Bag.at gx (i := 9) rfl).c1)
    | (go_at_call 17; refine (rless a b _).mono ?_; rintro e wx ⟨rfl, hbx⟩; have gx := Bag.keep (by assumption) hbx; have ux : Below w.heap.size w wx := below_of (by assumption) hbx; clear hbx; have f0 := (Bag.at gx (i := 0) rfl).c0; have g0 := (Bag.at gx (i := 0) rfl).c1; have f1 := (Bag.at gx (i := 1) rfl).c0; have g1 := (Bag.at gx (i := 1) rfl).c1; have f2 := (Bag.at gx (i := 2) rfl).c0; have g2 := (Bag.at gx (i := 2) rfl).c1; have f3 := (Bag.at gx (i := 3) rfl).c0; have g3 := (Bag.at gx (i := 3) rfl).c1; have f4 := (Bag.at gx (i := 4) rfl).c0; have g4 := (Bag.at gx (i := 4) rfl).c1; have f5 := (Bag.at gx (i := 5) rfl).c0; have g5 := (Bag.at gx (i := 5) rfl).c1; have f6 := (Bag.at gx (i := 6) rfl).c0; have g6 := (Bag.at gx (i := 6) rfl).c1; have f7 := (Bag.at gx (i := 7) rfl).c0; have g7 := (Bag.at gx (i := 7) rfl).c1; have f8 := (Bag.at gx (i := 8) rfl).c0; have g8 := (Bag.at gx (i := 8) rfl).c1; have f9 := (Bag.at gx (i := 9) rfl).c0; have g9 := (Bag.at gx (i := 9) rfl).c1)
    | (go_at_call 18; refine (of_below _ _).mono ?_; rintro e wx ⟨rfl, hbx⟩; have gx := Bag.keep (by assumption) hbx; have ux : Below w.heap.size w wx := below_of (by assumption) hbx; clear hbx; have f0 := (Bag.at gx (i := 0) rfl).c0; have g0 := (Bag.at gx (i := 0) rfl).c1; have f1 := (Bag.at gx (i := 1) rfl).c0; have g1 := (Bag.at gx (i := 1) rfl).c1; have f2 := (Bag.at gx (i := 2) rfl).c0; have g2 := (Bag.at gx (i := 2) rfl).c1; have f3 := (Bag.at gx (i := 3) rfl).c0; have g3 := (Bag.at gx (i := 3) rfl).c1; have f4 := (Bag.at gx (i := 4) rfl).c0; have g4 := (Bag.at gx (i := 4) rfl).c1; have f5 := (Bag.at gx (i := 5) rfl).c0; have g5 := (Bag.at gx (i := 5) rfl).c1; have f6 := (Bag.at gx (i := 6) rfl).c0; have g6 := (Bag.at gx (i := 6) rfl).c1; have f7 := (Bag.at gx (i := 7) rfl).c0; have g7 := (Bag.at gx (i := 7) rfl).c1; have f8 := (Bag.at gx (i := 8) rfl).c0; have g8 := (Bag.at gx (i := 8) rfl).c1; have f9 := (Bag.at gx (i := 9) rfl).c0; have g9 := (Bag.at gx (i := 9) rfl).c1)))
  go_wp2_with fail
  go_ret
  exact ⟨rfl, by assumption⟩
end Go.Proofs.YtnbchhjanlpdlaaDoor
