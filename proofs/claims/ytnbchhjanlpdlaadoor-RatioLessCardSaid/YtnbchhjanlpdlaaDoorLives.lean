/-
  WALKS: plimsolllaw01.lives: the answers that the document gives of wide, at its examples: it answers true.
-/
import Derived.Test.YtnbchhjanlpdlaaDoorText
import Derived.Test.YtnbchhjanlpdlaaDoorParse
import Derived.Deep.RegionHeld3
namespace Go.Proofs.YtnbchhjanlpdlaaDoor
open Go Go.RowKit

abbrev W0 (h l : Int) : Value := .agg #[.int .u64 h, .int .u64 l]
theorem of_below (n : Int) (w : World) :
    Calls Tryd.prog 18 #[.int .u64 n] w fun e w' => e = .returned (.agg #[.int .u64 0, .int .u64 n]) ∧ Below w.heap.size w w' := by
  refine (of_any n w).mono ?_
  rintro e w' ⟨rfl, rfl⟩
  exact ⟨rfl, by go_grown⟩
theorem lv_add (w : World) : Calls Tryd.prog 7 #[.agg #[.int .u64 0, .int .u64 18446744073709551615], .agg #[.int .u64 0, .int .u64 1]] w fun e w' =>
    e = .returned (.tuple #[.agg #[.int .u64 1, .int .u64 0], .int .i64 0]) ∧ Below w.heap.size w w' := by
  have h := add_at (a := ⟨18446744073709551615, by decide⟩) (b := ⟨1, by decide⟩) (ah := 0) (al := 18446744073709551615) (bh := 0) (bl := 1) (by kernel_rfl) (by kernel_rfl) (by kernel_rfl) (by kernel_rfl) w
  refine h.mono ?_
  rintro e w' ⟨rfl, hb⟩
  exact ⟨we_eq' (by kernel_rfl) (by kernel_rfl) (by kernel_rfl), hb⟩
theorem sub_at {a b : U} {ah al bh bl : Int} (h1 : ah = hiZ a) (h2 : al = loZ a) (h3 : bh = hiZ b) (h4 : bl = loZ b) (w : World) :
    Calls Tryd.prog 9 #[.agg #[.int .u64 ah, .int .u64 al], .agg #[.int .u64 bh, .int .u64 bl]] w fun e w' =>
      e = .returned (.tuple #[.agg #[.int .u64 (hiZ (subU a b)), .int .u64 (loZ (subU a b))], .int .i64 (subE a b)]) ∧ Below w.heap.size w w' := by
  subst h1 h2 h3 h4
  exact sub_any a b w
theorem less_at {a b : U} {ah al bh bl : Int} (h1 : ah = hiZ a) (h2 : al = loZ a) (h3 : bh = hiZ b) (h4 : bl = loZ b) (w : World) :
    Calls Tryd.prog 16 #[.agg #[.int .u64 ah, .int .u64 al], .agg #[.int .u64 bh, .int .u64 bl]] w fun e w' =>
      e = .returned (.bool (lessB a b)) ∧ Below w.heap.size w w' := by
  subst h1 h2 h3 h4
  exact less_any a b w
theorem times_at {a : U} {ah al : Int} (h1 : ah = hiZ a) (h2 : al = loZ a) (k : Nat) (hk : k < 18446744073709551616) (w : World) :
    Calls Tryd.prog 11 #[.agg #[.int .u64 ah, .int .u64 al], .int .u64 k] w fun e w' =>
      e = .returned (.tuple #[.agg #[.int .u64 (hiZ (timesU a k)), .int .u64 (loZ (timesU a k))], .int .i64 (timesE a k)]) ∧ Below w.heap.size w w' := by
  subst h1 h2
  exact times_any a k hk w
theorem wdiv_at {a : U} {ah al : Int} (h1 : ah = hiZ a) (h2 : al = loZ a) (k : Nat) (hk0 : 0 < k) (hk : k < 18446744073709551616) (w : World) :
    Calls Tryd.prog 13 #[.agg #[.int .u64 ah, .int .u64 al], .int .u64 k] w fun e w' =>
      e = .returned (.tuple #[.agg #[.int .u64 (hiZ (divU a k)), .int .u64 (loZ (divU a k))], .int .u64 (remZ a k), .int .i64 0]) ∧ Below w.heap.size w w' := by
  subst h1 h2
  exact wdiv_any a k hk0 hk w
theorem text_at {a : U} {ah al : Int} (h1 : ah = hiZ a) (h2 : al = loZ a) (w : World) (h : tabs w) :
    Calls Tryd.prog 23 #[.agg #[.int .u64 ah, .int .u64 al]] w fun e w' => e = .returned (.string ⟨(Lib.decDigits a.n).toArray⟩) ∧ Below w.heap.size w w' := by
  subst h1 h2
  exact text_of a w h

theorem lv_sub (w : World) : Calls Tryd.prog 9 #[.agg #[.int .u64 0, .int .u64 1], .agg #[.int .u64 0, .int .u64 2]] w fun e w' =>
    e = .returned (.tuple #[.agg #[.int .u64 0, .int .u64 0], .int .i64 1]) ∧ Below w.heap.size w w' := by
  refine (sub_at (a := ⟨1, by decide⟩) (b := ⟨2, by decide⟩) (by kernel_rfl) (by kernel_rfl) (by kernel_rfl) (by kernel_rfl) w).mono ?_
  rintro e w' ⟨rfl, hb⟩
  exact ⟨we_eq' (by kernel_rfl) (by kernel_rfl) (by kernel_rfl), hb⟩
theorem lv_times (w : World) : Calls Tryd.prog 11 #[.agg #[.int .u64 0, .int .u64 9223372036854775808], .int .u64 6] w fun e w' =>
    e = .returned (.tuple #[.agg #[.int .u64 3, .int .u64 0], .int .i64 0]) ∧ Below w.heap.size w w' := by
  refine (times_at (a := ⟨9223372036854775808, by decide⟩) (by kernel_rfl) (by kernel_rfl) 6 (by decide) w).mono ?_
  rintro e w' ⟨rfl, hb⟩
  exact ⟨we_eq' (by kernel_rfl) (by kernel_rfl) (by kernel_rfl), hb⟩
theorem lv_div (w : World) : Calls Tryd.prog 13 #[.agg #[.int .u64 1, .int .u64 0], .int .u64 10] w fun e w' =>
    e = .returned (.tuple #[.agg #[.int .u64 0, .int .u64 1844674407370955161], .int .u64 6, .int .i64 0]) ∧ Below w.heap.size w w' := by
  refine (wdiv_at (a := ⟨18446744073709551616, by decide⟩) (by kernel_rfl) (by kernel_rfl) 10 (by decide) (by decide) w).mono ?_
  rintro e w' ⟨rfl, hb⟩
  exact ⟨we4_eq (by kernel_rfl) (by kernel_rfl) (by kernel_rfl) rfl, hb⟩
theorem wdiv_zero_at (ah al : Int) (h1 : 0 ≤ ah) (h2 : ah ≤ 18446744073709551615) (h3 : 0 ≤ al) (h4 : al ≤ 18446744073709551615) (w : World) : Calls Tryd.prog 13 #[.agg #[.int .u64 ah, .int .u64 al], .int .u64 0] w fun e w' =>
    e = .returned (.tuple #[.agg #[.int .u64 0, .int .u64 0], .int .u64 0, .int .i64 1]) ∧ Below w.heap.size w w' := by
  obtain ⟨a, rfl, rfl, _⟩ := U.of_halves ah al h1 h2 h3 h4
  exact wdiv_zero a w
theorem lv_parse (w : World) : Calls Tryd.prog 19 #[.string ⟨#[49, 56, 52, 52, 54, 55, 52, 52, 48, 55, 51, 55, 48, 57, 53, 53, 49, 54, 49, 54]⟩] w fun e w' =>
    e = .returned (.tuple #[.agg #[.int .u64 1, .int .u64 0], .int .i64 0]) ∧ Below w.heap.size w w' := by
  refine (parse_any ⟨#[49, 56, 52, 52, 54, 55, 52, 52, 48, 55, 51, 55, 48, 57, 53, 53, 49, 54, 49, 54]⟩ w (by decide)).mono ?_
  rintro e w' ⟨rfl, hb⟩
  exact ⟨we_eq' (by decide +kernel) (by decide +kernel) (by decide +kernel), hb⟩
theorem lv_parse0 (w : World) : Calls Tryd.prog 19 #[.string ⟨#[48, 49]⟩] w fun e w' =>
    e = .returned (.tuple #[.agg #[.int .u64 0, .int .u64 0], .int .i64 4]) ∧ Below w.heap.size w w' := by
  refine (parse_any ⟨#[48, 49]⟩ w (by decide)).mono ?_
  rintro e w' ⟨rfl, hb⟩
  exact ⟨we_eq' (by decide +kernel) (by decide +kernel) (by decide +kernel), hb⟩
theorem lv_digits : Lib.decDigits 18446744073709551616 = [49, 56, 52, 52, 54, 55, 52, 52, 48, 55, 51, 55, 48, 57, 53, 53, 49, 54, 49, 54] := by
  rw [Lib.decDigits_eq, Lib.nDigits_unique 19 _ (by decide) (by decide)]
  decide +kernel
theorem lv_text (w : World) (h : tabs w) : Calls Tryd.prog 23 #[.agg #[.int .u64 1, .int .u64 0]] w fun e w' =>
    e = .returned (.string ⟨#[49, 56, 52, 52, 54, 55, 52, 52, 48, 55, 51, 55, 48, 57, 53, 53, 49, 54, 49, 54]⟩) ∧ Below w.heap.size w w' := by
  refine (text_at (a := ⟨18446744073709551616, by decide⟩) (by kernel_rfl) (by kernel_rfl) w h).mono ?_
  rintro e w' ⟨rfl, hb⟩
  refine ⟨?_, hb⟩
  show Ending.returned (.string ⟨(Lib.decDigits 18446744073709551616).toArray⟩) = _
  rw [lv_digits]
theorem lv_less9 (w : World) : Calls Tryd.prog 16 #[.agg #[.int .u64 0, .int .u64 9], .agg #[.int .u64 1, .int .u64 0]] w fun e w' =>
    e = .returned (.bool true) ∧ Below w.heap.size w w' := by
  refine (less_at (a := ⟨9, by decide⟩) (b := ⟨18446744073709551616, by decide⟩) (by kernel_rfl) (by kernel_rfl) (by kernel_rfl) (by kernel_rfl) w).mono ?_
  rintro e w' ⟨rfl, hb⟩
  exact ⟨rfl, hb⟩
theorem lv_less0 (w : World) : Calls Tryd.prog 16 #[.agg #[.int .u64 1, .int .u64 0], .agg #[.int .u64 1, .int .u64 0]] w fun e w' =>
    e = .returned (.bool false) ∧ Below w.heap.size w w' := by
  refine (less_at (a := ⟨18446744073709551616, by decide⟩) (b := ⟨18446744073709551616, by decide⟩) (by kernel_rfl) (by kernel_rfl) (by kernel_rfl) (by kernel_rfl) w).mono ?_
  rintro e w' ⟨rfl, hb⟩
  exact ⟨rfl, hb⟩
/-- Three numbers in a new row: their sum. -/
theorem sum3_at {x y z : U} {a0 a1 a2 a3 a4 a5 : Int} (e0 : a0 = hiZ x) (e1 : a1 = loZ x) (e2 : a2 = hiZ y) (e3 : a3 = loZ y) (e4 : a4 = hiZ z) (e5 : a5 = loZ z) (W : World) (g : Nat) (hg : g = W.heap.size) :
    Calls Tryd.prog 21 #[.slice (some ⟨g, 0, none⟩) 3 3] (W.alloc (.cells #[.int .u64 a0, .int .u64 a1, .int .u64 a2, .int .u64 a3, .int .u64 a4, .int .u64 a5] 24)) fun e w' =>
      e = .returned (.tuple #[.agg #[.int .u64 (hiZ (cutU (x.n + (y.n + (z.n + 0))))), .int .u64 (loZ (cutU (x.n + (y.n + (z.n + 0)))))], .int .i64 (cutE (x.n + (y.n + (z.n + 0))))]) ∧
        Below (W.alloc (.cells #[.int .u64 a0, .int .u64 a1, .int .u64 a2, .int .u64 a3, .int .u64 a4, .int .u64 a5] 24)).heap.size (W.alloc (.cells #[.int .u64 a0, .int .u64 a1, .int .u64 a2, .int .u64 a3, .int .u64 a4, .int .u64 a5] 24)) w' := by
  subst e0 e1 e2 e3 e4 e5 hg
  refine (sum_any [x, y, z] W.heap.size 0 3 _ ?_ (by simp) (by simp)).mono ?_
  · intro i hi
    match i, hi with
    | 0, _ => exact ⟨by rw [World.cell?_alloc_new]; rfl, by rw [World.cell?_alloc_new]; rfl⟩
    | 1, _ => exact ⟨by rw [World.cell?_alloc_new]; rfl, by rw [World.cell?_alloc_new]; rfl⟩
    | 2, _ => exact ⟨by rw [World.cell?_alloc_new]; rfl, by rw [World.cell?_alloc_new]; rfl⟩
  · rintro e w' ⟨rfl, hb⟩
    exact ⟨rfl, hb⟩
theorem lv_sum (W : World) (g : Nat) (hg : g = W.heap.size) :
    Calls Tryd.prog 21 #[.slice (some ⟨g, 0, none⟩) 3 3] (W.alloc (.cells #[.int .u64 0, .int .u64 1, .int .u64 0, .int .u64 2, .int .u64 0, .int .u64 4] 24)) fun e w' =>
      e = .returned (.tuple #[.agg #[.int .u64 0, .int .u64 7], .int .i64 0]) ∧ Below (W.alloc (.cells #[.int .u64 0, .int .u64 1, .int .u64 0, .int .u64 2, .int .u64 0, .int .u64 4] 24)).heap.size (W.alloc (.cells #[.int .u64 0, .int .u64 1, .int .u64 0, .int .u64 2, .int .u64 0, .int .u64 4] 24)) w' := by
  refine (sum3_at (x := ⟨1, by decide⟩) (y := ⟨2, by decide⟩) (z := ⟨4, by decide⟩) (by kernel_rfl) (by kernel_rfl) (by kernel_rfl) (by kernel_rfl) (by kernel_rfl) (by kernel_rfl) W g hg).mono ?_
  rintro e w' ⟨rfl, hb⟩
  exact ⟨we_eq' (by kernel_rfl) (by kernel_rfl) (by kernel_rfl), hb⟩

set_option maxHeartbeats 4000000 in
set_option maxRecDepth 100000 in
theorem lives_any (w : World) (htab : tabs w) :
    Calls Tryd.prog 15 #[] w fun e w' => e = .returned (.bool true) ∧ Below w.heap.size w w' := by
  have HT := Lib.hid htab
  clear htab
  go_enter Tryd.func15, Tryd.ntmps15
  go_wp2_with (go_at_call 18; refine (of_any _ _).mono ?_; rintro e wo ⟨rfl, rfl⟩)
  refine (lv_add _).mono ?_
  rintro e w1 ⟨rfl, hb1⟩
  have B1 := Lib.hid (below_of (show Below w.heap.size w _ by go_grown) hb1)
  clear hb1
  go_wp2_with (go_at_call 18; refine (of_any _ _).mono ?_; rintro e wo ⟨rfl, rfl⟩)
  refine (lv_sub _).mono ?_
  rintro e w2 ⟨rfl, hb2⟩
  have B2 : Hid (Below w.heap.size w w2) := (by refine below_of ?_ hb2; have hB := B1.out; have hz := hB.size; go_grown)
  have Ka2 : Hid (Blk2 w2 w1.heap.size 1 0) := (by refine Blk2.keep ?_ hb2; repeat' (first | (with_reducible refine Blk2.new_at _ _ (by simp; done)) | (with_reducible refine Blk2.drew ?_) | (with_reducible refine Blk2.alloc ?_ _)))
  have la2 := Ka2.out.lt
  clear hb2 
  go_wp2_with (go_at_call 18; refine (of_any _ _).mono ?_; rintro e wo ⟨rfl, rfl⟩)
  refine (lv_times _).mono ?_
  rintro e w3 ⟨rfl, hb3⟩
  have B3 : Hid (Below w.heap.size w w3) := (by refine below_of ?_ hb3; have hB := B2.out; have hz := hB.size; go_grown)
  have Ka3 : Hid (Blk2 w3 w1.heap.size 1 0) := (by refine Blk2.keep ?_ hb3; repeat' (first | (with_reducible exact (Ka2).out) | (with_reducible refine Blk2.new_at _ _ (by simp; done)) | (with_reducible refine Blk2.drew ?_) | (with_reducible refine Blk2.alloc ?_ _)))
  have la3 := Ka3.out.lt
  clear hb3 la2
  go_wp2_with (go_at_call 18; refine (of_any _ _).mono ?_; rintro e wo ⟨rfl, rfl⟩)
  refine (lv_div _).mono ?_
  rintro e w4 ⟨rfl, hb4⟩
  have B4 : Hid (Below w.heap.size w w4) := (by refine below_of ?_ hb4; have hB := B3.out; have hz := hB.size; go_grown)
  have Ka4 : Hid (Blk2 w4 w1.heap.size 1 0) := (by refine Blk2.keep ?_ hb4; repeat' (first | (with_reducible exact (Ka3).out) | (with_reducible refine Blk2.new_at _ _ (by simp; done)) | (with_reducible refine Blk2.drew ?_) | (with_reducible refine Blk2.alloc ?_ _)))
  have Kb4 : Hid (Blk2 w4 w3.heap.size 3 0) := (by refine Blk2.keep ?_ hb4; repeat' (first | (with_reducible refine Blk2.new_at _ _ (by simp; done)) | (with_reducible refine Blk2.drew ?_) | (with_reducible refine Blk2.alloc ?_ _)))
  have la4 := Ka4.out.lt
  have lb4 := Kb4.out.lt
  clear hb4 la3
  go_wp2_with (go_at_call 18; refine (of_any _ _).mono ?_; rintro e wo ⟨rfl, rfl⟩)
  refine (wdiv_zero_at _ _ (by omega) (by omega) (by omega) (by omega) _).mono ?_
  rintro e w5 ⟨rfl, hb5⟩
  have B5 : Hid (Below w.heap.size w w5) := (by refine below_of ?_ hb5; have hB := B4.out; have hz := hB.size; go_grown)
  have Ka5 : Hid (Blk2 w5 w1.heap.size 1 0) := (by refine Blk2.keep ?_ hb5; repeat' (first | (with_reducible exact (Ka4).out) | (with_reducible refine Blk2.new_at _ _ (by simp; done)) | (with_reducible refine Blk2.drew ?_) | (with_reducible refine Blk2.alloc ?_ _)))
  have Kb5 : Hid (Blk2 w5 w3.heap.size 3 0) := (by refine Blk2.keep ?_ hb5; repeat' (first | (with_reducible exact (Kb4).out) | (with_reducible refine Blk2.new_at _ _ (by simp; done)) | (with_reducible refine Blk2.drew ?_) | (with_reducible refine Blk2.alloc ?_ _)))
  have Kq5 : Hid (Blk2 w5 w4.heap.size 0 1844674407370955161) := (by refine Blk2.keep ?_ hb5; repeat' (first | (with_reducible refine Blk2.new_at _ _ (by simp; done)) | (with_reducible refine Blk2.drew ?_) | (with_reducible refine Blk2.alloc ?_ _)))
  have la5 := Ka5.out.lt
  have lb5 := Kb5.out.lt
  have lq5 := Kq5.out.lt
  clear hb5 la4 lb4
  go_wp2_with (go_at_call 18; refine (of_any _ _).mono ?_; rintro e wo ⟨rfl, rfl⟩)
  refine (lv_parse _).mono ?_
  rintro e w6 ⟨rfl, hb6⟩
  have B6 : Hid (Below w.heap.size w w6) := (by refine below_of ?_ hb6; have hB := B5.out; have hz := hB.size; go_grown)
  have Ka6 : Hid (Blk2 w6 w1.heap.size 1 0) := (by refine Blk2.keep ?_ hb6; repeat' (first | (with_reducible exact (Ka5).out) | (with_reducible refine Blk2.new_at _ _ (by simp; done)) | (with_reducible refine Blk2.drew ?_) | (with_reducible refine Blk2.alloc ?_ _)))
  have Kb6 : Hid (Blk2 w6 w3.heap.size 3 0) := (by refine Blk2.keep ?_ hb6; repeat' (first | (with_reducible exact (Kb5).out) | (with_reducible refine Blk2.new_at _ _ (by simp; done)) | (with_reducible refine Blk2.drew ?_) | (with_reducible refine Blk2.alloc ?_ _)))
  have Kq6 : Hid (Blk2 w6 w4.heap.size 0 1844674407370955161) := (by refine Blk2.keep ?_ hb6; repeat' (first | (with_reducible exact (Kq5).out) | (with_reducible refine Blk2.new_at _ _ (by simp; done)) | (with_reducible refine Blk2.drew ?_) | (with_reducible refine Blk2.alloc ?_ _)))
  have la6 := Ka6.out.lt
  have lb6 := Kb6.out.lt
  have lq6 := Kq6.out.lt
  clear hb6 la5 lb5 lq5
  go_wp2_with (go_at_call 18; refine (of_any _ _).mono ?_; rintro e wo ⟨rfl, rfl⟩)
  refine (lv_parse0 _).mono ?_
  rintro e w7 ⟨rfl, hb7⟩
  have B7 : Hid (Below w.heap.size w w7) := (by refine below_of ?_ hb7; have hB := B6.out; have hz := hB.size; go_grown)
  have Ka7 : Hid (Blk2 w7 w1.heap.size 1 0) := (by refine Blk2.keep ?_ hb7; repeat' (first | (with_reducible exact (Ka6).out) | (with_reducible refine Blk2.new_at _ _ (by simp; done)) | (with_reducible refine Blk2.drew ?_) | (with_reducible refine Blk2.alloc ?_ _)))
  have Kb7 : Hid (Blk2 w7 w3.heap.size 3 0) := (by refine Blk2.keep ?_ hb7; repeat' (first | (with_reducible exact (Kb6).out) | (with_reducible refine Blk2.new_at _ _ (by simp; done)) | (with_reducible refine Blk2.drew ?_) | (with_reducible refine Blk2.alloc ?_ _)))
  have Kq7 : Hid (Blk2 w7 w4.heap.size 0 1844674407370955161) := (by refine Blk2.keep ?_ hb7; repeat' (first | (with_reducible exact (Kq6).out) | (with_reducible refine Blk2.new_at _ _ (by simp; done)) | (with_reducible refine Blk2.drew ?_) | (with_reducible refine Blk2.alloc ?_ _)))
  have Kc7 : Hid (Blk2 w7 w6.heap.size 1 0) := (by refine Blk2.keep ?_ hb7; repeat' (first | (with_reducible refine Blk2.new_at _ _ (by simp; done)) | (with_reducible refine Blk2.drew ?_) | (with_reducible refine Blk2.alloc ?_ _)))
  have la7 := Ka7.out.lt
  have lb7 := Kb7.out.lt
  have lq7 := Kq7.out.lt
  have lc7 := Kc7.out.lt
  clear hb7 la6 lb6 lq6
  go_wp2_with (go_at_call 18; refine (of_any _ _).mono ?_; rintro e wo ⟨rfl, rfl⟩)
  refine (lv_sum _ _ (by simp)).mono ?_
  rintro e w8 ⟨rfl, hb8⟩
  have B8 : Hid (Below w.heap.size w w8) := (by refine below_of ?_ hb8; have hB := B7.out; have hz := hB.size; go_grown)
  have Ka8 : Hid (Blk2 w8 w1.heap.size 1 0) := (by refine Blk2.keep ?_ hb8; repeat' (first | (with_reducible exact (Ka7).out) | (with_reducible refine Blk2.new_at _ _ (by simp; done)) | (with_reducible refine Blk2.drew ?_) | (with_reducible refine Blk2.alloc ?_ _)))
  have Kb8 : Hid (Blk2 w8 w3.heap.size 3 0) := (by refine Blk2.keep ?_ hb8; repeat' (first | (with_reducible exact (Kb7).out) | (with_reducible refine Blk2.new_at _ _ (by simp; done)) | (with_reducible refine Blk2.drew ?_) | (with_reducible refine Blk2.alloc ?_ _)))
  have Kq8 : Hid (Blk2 w8 w4.heap.size 0 1844674407370955161) := (by refine Blk2.keep ?_ hb8; repeat' (first | (with_reducible exact (Kq7).out) | (with_reducible refine Blk2.new_at _ _ (by simp; done)) | (with_reducible refine Blk2.drew ?_) | (with_reducible refine Blk2.alloc ?_ _)))
  have Kc8 : Hid (Blk2 w8 w6.heap.size 1 0) := (by refine Blk2.keep ?_ hb8; repeat' (first | (with_reducible exact (Kc7).out) | (with_reducible refine Blk2.new_at _ _ (by simp; done)) | (with_reducible refine Blk2.drew ?_) | (with_reducible refine Blk2.alloc ?_ _)))
  have la8 := Ka8.out.lt
  have lb8 := Kb8.out.lt
  have lq8 := Kq8.out.lt
  have lc8 := Kc8.out.lt
  clear hb8 la7 lb7 lq7 lc7
  clear la8 lb8 lq8 lc8
  have la := Ka8.out.lt
  have ca := Ka8.out.c0
  have da := Ka8.out.c1
  have lb := Kb8.out.lt
  have cb := Kb8.out.c0
  have db := Kb8.out.c1
  have lq := Kq8.out.lt
  have cq := Kq8.out.c0
  have dq := Kq8.out.c1
  have lc := Kc8.out.lt
  have cc := Kc8.out.c0
  have dc := Kc8.out.c1
  have ka := Ka8.out
  have kb := Kb8.out
  have kq := Kq8.out
  have kc := Kc8.out
  have hB8 := B8.out
  have hz8 := hB8.size
  go_wp2_with fail
  dsimp only [List.append]
  go_region_held3 (fun w' => w'.cell? ⟨w1.heap.size, 0, none⟩ = some (.int .u64 1) ∧ w'.cell? ⟨w1.heap.size, 1, none⟩ = some (.int .u64 0) ∧ w'.cell? ⟨w3.heap.size, 0, none⟩ = some (.int .u64 3) ∧ w'.cell? ⟨w3.heap.size, 1, none⟩ = some (.int .u64 0) ∧ w'.cell? ⟨w4.heap.size, 0, none⟩ = some (.int .u64 0) ∧ w'.cell? ⟨w4.heap.size, 1, none⟩ = some (.int .u64 1844674407370955161) ∧ w'.cell? ⟨w6.heap.size, 0, none⟩ = some (.int .u64 1) ∧ w'.cell? ⟨w6.heap.size, 1, none⟩ = some (.int .u64 0) ∧ w'.cell? ⟨w8.heap.size, 0, none⟩ = some (.int .u64 0) ∧ w'.cell? ⟨w8.heap.size, 1, none⟩ = some (.int .u64 7)) (first | exact ⟨by assumption, by assumption, by assumption, by assumption, by assumption, by assumption, by assumption, by assumption, by assumption, by assumption⟩ | go_keep) (first
    | (go_at_call 18; refine (of_below _ _).mono ?_; rintro e wx ⟨rfl, hbx⟩; have xa : Blk2 wx (w1.heap.size) 1 0 := (by refine Blk2.keep ?_ hbx; repeat' (first | (with_reducible assumption) | (with_reducible refine Blk2.new_at _ _ (by simp; done)) | (with_reducible refine Blk2.drew ?_) | (with_reducible refine Blk2.alloc ?_ _))); have xb : Blk2 wx (w3.heap.size) 3 0 := (by refine Blk2.keep ?_ hbx; repeat' (first | (with_reducible assumption) | (with_reducible refine Blk2.new_at _ _ (by simp; done)) | (with_reducible refine Blk2.drew ?_) | (with_reducible refine Blk2.alloc ?_ _))); have xq : Blk2 wx (w4.heap.size) 0 1844674407370955161 := (by refine Blk2.keep ?_ hbx; repeat' (first | (with_reducible assumption) | (with_reducible refine Blk2.new_at _ _ (by simp; done)) | (with_reducible refine Blk2.drew ?_) | (with_reducible refine Blk2.alloc ?_ _))); have xc : Blk2 wx (w6.heap.size) 1 0 := (by refine Blk2.keep ?_ hbx; repeat' (first | (with_reducible assumption) | (with_reducible refine Blk2.new_at _ _ (by simp; done)) | (with_reducible refine Blk2.drew ?_) | (with_reducible refine Blk2.alloc ?_ _))); have xt : Blk2 wx (w8.heap.size) 0 7 := (by refine Blk2.keep ?_ hbx; repeat' (first | (with_reducible assumption) | (with_reducible refine Blk2.new_at _ _ (by simp; done)) | (with_reducible refine Blk2.drew ?_) | (with_reducible refine Blk2.alloc ?_ _))); have xa0 := xa.c0; have xa1 := xa.c1; have xa2 := xa.lt; have xb0 := xb.c0; have xb1 := xb.c1; have xb2 := xb.lt; have xq0 := xq.c0; have xq1 := xq.c1; have xq2 := xq.lt; have xc0 := xc.c0; have xc1 := xc.c1; have xc2 := xc.lt; have xt0 := xt.c0; have xt1 := xt.c1; have xt2 := xt.lt; have xB : Below w.heap.size w wx := (by refine below_of ?_ hbx; go_grown); have xz := xB.size; clear hbx)
    | (go_at_call 23; refine (lv_text _ (tabs_stays HT.out (by go_grown))).mono ?_; rintro e wx ⟨rfl, hbx⟩; have xa : Blk2 wx (w1.heap.size) 1 0 := (by refine Blk2.keep ?_ hbx; repeat' (first | (with_reducible assumption) | (with_reducible refine Blk2.new_at _ _ (by simp; done)) | (with_reducible refine Blk2.drew ?_) | (with_reducible refine Blk2.alloc ?_ _))); have xb : Blk2 wx (w3.heap.size) 3 0 := (by refine Blk2.keep ?_ hbx; repeat' (first | (with_reducible assumption) | (with_reducible refine Blk2.new_at _ _ (by simp; done)) | (with_reducible refine Blk2.drew ?_) | (with_reducible refine Blk2.alloc ?_ _))); have xq : Blk2 wx (w4.heap.size) 0 1844674407370955161 := (by refine Blk2.keep ?_ hbx; repeat' (first | (with_reducible assumption) | (with_reducible refine Blk2.new_at _ _ (by simp; done)) | (with_reducible refine Blk2.drew ?_) | (with_reducible refine Blk2.alloc ?_ _))); have xc : Blk2 wx (w6.heap.size) 1 0 := (by refine Blk2.keep ?_ hbx; repeat' (first | (with_reducible assumption) | (with_reducible refine Blk2.new_at _ _ (by simp; done)) | (with_reducible refine Blk2.drew ?_) | (with_reducible refine Blk2.alloc ?_ _))); have xt : Blk2 wx (w8.heap.size) 0 7 := (by refine Blk2.keep ?_ hbx; repeat' (first | (with_reducible assumption) | (with_reducible refine Blk2.new_at _ _ (by simp; done)) | (with_reducible refine Blk2.drew ?_) | (with_reducible refine Blk2.alloc ?_ _))); have xa0 := xa.c0; have xa1 := xa.c1; have xa2 := xa.lt; have xb0 := xb.c0; have xb1 := xb.c1; have xb2 := xb.lt; have xq0 := xq.c0; have xq1 := xq.c1; have xq2 := xq.lt; have xc0 := xc.c0; have xc1 := xc.c1; have xc2 := xc.lt; have xt0 := xt.c0; have xt1 := xt.c1; have xt2 := xt.lt; have xB : Below w.heap.size w wx := (by refine below_of ?_ hbx; go_grown); have xz := xB.size; clear hbx)
    | (go_at_call_of 16 (Value.agg #[.int .u64 0, .int .u64 9]); refine (lv_less9 _).mono ?_; rintro e wx ⟨rfl, hbx⟩; have xa : Blk2 wx (w1.heap.size) 1 0 := (by refine Blk2.keep ?_ hbx; repeat' (first | (with_reducible assumption) | (with_reducible refine Blk2.new_at _ _ (by simp; done)) | (with_reducible refine Blk2.drew ?_) | (with_reducible refine Blk2.alloc ?_ _))); have xb : Blk2 wx (w3.heap.size) 3 0 := (by refine Blk2.keep ?_ hbx; repeat' (first | (with_reducible assumption) | (with_reducible refine Blk2.new_at _ _ (by simp; done)) | (with_reducible refine Blk2.drew ?_) | (with_reducible refine Blk2.alloc ?_ _))); have xq : Blk2 wx (w4.heap.size) 0 1844674407370955161 := (by refine Blk2.keep ?_ hbx; repeat' (first | (with_reducible assumption) | (with_reducible refine Blk2.new_at _ _ (by simp; done)) | (with_reducible refine Blk2.drew ?_) | (with_reducible refine Blk2.alloc ?_ _))); have xc : Blk2 wx (w6.heap.size) 1 0 := (by refine Blk2.keep ?_ hbx; repeat' (first | (with_reducible assumption) | (with_reducible refine Blk2.new_at _ _ (by simp; done)) | (with_reducible refine Blk2.drew ?_) | (with_reducible refine Blk2.alloc ?_ _))); have xt : Blk2 wx (w8.heap.size) 0 7 := (by refine Blk2.keep ?_ hbx; repeat' (first | (with_reducible assumption) | (with_reducible refine Blk2.new_at _ _ (by simp; done)) | (with_reducible refine Blk2.drew ?_) | (with_reducible refine Blk2.alloc ?_ _))); have xa0 := xa.c0; have xa1 := xa.c1; have xa2 := xa.lt; have xb0 := xb.c0; have xb1 := xb.c1; have xb2 := xb.lt; have xq0 := xq.c0; have xq1 := xq.c1; have xq2 := xq.lt; have xc0 := xc.c0; have xc1 := xc.c1; have xc2 := xc.lt; have xt0 := xt.c0; have xt1 := xt.c1; have xt2 := xt.lt; have xB : Below w.heap.size w wx := (by refine below_of ?_ hbx; go_grown); have xz := xB.size; clear hbx)
    | (go_at_call_of 16 (Value.agg #[.int .u64 1, .int .u64 0]); refine (lv_less0 _).mono ?_; rintro e wx ⟨rfl, hbx⟩; have xa : Blk2 wx (w1.heap.size) 1 0 := (by refine Blk2.keep ?_ hbx; repeat' (first | (with_reducible assumption) | (with_reducible refine Blk2.new_at _ _ (by simp; done)) | (with_reducible refine Blk2.drew ?_) | (with_reducible refine Blk2.alloc ?_ _))); have xb : Blk2 wx (w3.heap.size) 3 0 := (by refine Blk2.keep ?_ hbx; repeat' (first | (with_reducible assumption) | (with_reducible refine Blk2.new_at _ _ (by simp; done)) | (with_reducible refine Blk2.drew ?_) | (with_reducible refine Blk2.alloc ?_ _))); have xq : Blk2 wx (w4.heap.size) 0 1844674407370955161 := (by refine Blk2.keep ?_ hbx; repeat' (first | (with_reducible assumption) | (with_reducible refine Blk2.new_at _ _ (by simp; done)) | (with_reducible refine Blk2.drew ?_) | (with_reducible refine Blk2.alloc ?_ _))); have xc : Blk2 wx (w6.heap.size) 1 0 := (by refine Blk2.keep ?_ hbx; repeat' (first | (with_reducible assumption) | (with_reducible refine Blk2.new_at _ _ (by simp; done)) | (with_reducible refine Blk2.drew ?_) | (with_reducible refine Blk2.alloc ?_ _))); have xt : Blk2 wx (w8.heap.size) 0 7 := (by refine Blk2.keep ?_ hbx; repeat' (first | (with_reducible assumption) | (with_reducible refine Blk2.new_at _ _ (by simp; done)) | (with_reducible refine Blk2.drew ?_) | (with_reducible refine Blk2.alloc ?_ _))); have xa0 := xa.c0; have xa1 := xa.c1; have xa2 := xa.lt; have xb0 := xb.c0; have xb1 := xb.c1; have xb2 := xb.lt; have xq0 := xq.c0; have xq1 := xq.c1; have xq2 := xq.lt; have xc0 := xc.c0; have xc1 := xc.c1; have xc2 := xc.lt; have xt0 := xt.c0; have xt1 := xt.c1; have xt2 := xt.lt; have xB : Below w.heap.size w wx := (by refine below_of ?_ hbx; go_grown); have xz := xB.size; clear hbx))
  go_wp2_with fail
  go_ret
  exact ⟨rfl, xB⟩
end Go.Proofs.YtnbchhjanlpdlaaDoor