/-
  WALKS: ratio.Text; plimsolllaw02.lives: the answers that the document gives of ratio, at its examples: it answers true.
-/
import Derived.Test.YtnbchhjanlpdlaaDoorRText
namespace Go.Proofs.YtnbchhjanlpdlaaDoor
open Go Go.RowKit

theorem reduce0_at {n d : U} {a b c e : Int} (h1 : a = hiZ n) (h2 : b = loZ n) (h3 : c = hiZ d) (h4 : e = loZ d) (hd : d.n = 0) (w : World) :
    Calls Tryd.prog 25 #[.agg #[.int .u64 a, .int .u64 b], .agg #[.int .u64 c, .int .u64 e]] w fun e w' =>
      e = .returned (.tuple #[.agg #[.int .u64 0, .int .u64 0, .int .u64 0, .int .u64 0], .int .i64 1]) ∧ Below w.heap.size w w' := by
  subst h1 h2 h3 h4
  exact reduce_zero n d hd w
theorem rate0_at {n : U} {a b : Int} (h1 : a = hiZ n) (h2 : b = loZ n) (w : World) :
    Calls Tryd.prog 27 #[.agg #[.int .u64 a, .int .u64 b], .int .u64 0] w fun e w' =>
      e = .returned (.tuple #[.agg #[.int .u64 0, .int .u64 0, .int .u64 0, .int .u64 0], .int .i64 12]) ∧ Below w.heap.size w w' := by
  subst h1 h2
  exact rate_zero n w
theorem rless_at {a b c d : U} {a1 a2 b1 b2 c1 c2 d1 d2 : Int} (h1 : a1 = hiZ a) (h2 : a2 = loZ a) (h3 : b1 = hiZ b) (h4 : b2 = loZ b) (h5 : c1 = hiZ c) (h6 : c2 = loZ c) (h7 : d1 = hiZ d) (h8 : d2 = loZ d) (w : World) :
    Calls Tryd.prog 38 #[.agg #[.int .u64 a1, .int .u64 a2, .int .u64 b1, .int .u64 b2], .agg #[.int .u64 c1, .int .u64 c2, .int .u64 d1, .int .u64 d2]] w fun e w' =>
      e = .returned (.tuple #[.bool (lessFB a b c d), .int .i64 (lessFE a b c d)]) ∧ Below w.heap.size w w' := by
  subst h1 h2 h3 h4 h5 h6 h7 h8
  exact rless_any a b c d w
theorem floor_at {n d : U} {a b c e : Int} (h1 : a = hiZ n) (h2 : b = loZ n) (h3 : c = hiZ d) (h4 : e = loZ d) (hd : d.n ≠ 0) (w : World) :
    Calls Tryd.prog 29 #[.agg #[.int .u64 a, .int .u64 b, .int .u64 c, .int .u64 e]] w fun e w' =>
      e = .returned (.tuple #[.agg #[.int .u64 (hiZ (divW n d)), .int .u64 (loZ (divW n d))], .int .i64 0]) ∧ Below w.heap.size w w' := by
  subst h1 h2 h3 h4
  exact floor_any n d hd w
theorem check_at {n d : U} {a b c e : Int} (h1 : a = hiZ n) (h2 : b = loZ n) (h3 : c = hiZ d) (h4 : e = loZ d) (w : World) :
    Calls Tryd.prog 34 #[.agg #[.int .u64 a, .int .u64 b, .int .u64 c, .int .u64 e]] w fun e w' => e = .returned (.int .i64 (checkE n d)) ∧ Below w.heap.size w w' := by
  subst h1 h2 h3 h4
  exact check_any n d w
theorem gcd_at {n d : U} {a b c e : Int} (h1 : a = hiZ n) (h2 : b = loZ n) (h3 : c = hiZ d) (h4 : e = loZ d) (w : World) :
    Calls Tryd.prog 32 #[.agg #[.int .u64 a, .int .u64 b], .agg #[.int .u64 c, .int .u64 e]] w fun e w' => e = .returned (.agg #[.int .u64 (hiZ (gcdW n d)), .int .u64 (loZ (gcdW n d))]) ∧ Below w.heap.size w w' := by
  subst h1 h2 h3 h4
  exact gcd_any n d w
theorem wv_eq {a b c d : Int} (h1 : a = b) (h2 : c = d) : Ending.returned (.agg #[.int .u64 a, .int .u64 c]) = Ending.returned (.agg #[.int .u64 b, .int .u64 d]) := by rw [h1, h2]
theorem l2_red (w : World) : Calls Tryd.prog 25 #[.agg #[.int .u64 0, .int .u64 12], .agg #[.int .u64 0, .int .u64 18]] w fun e w' => e = .returned (.tuple #[.agg #[.int .u64 0, .int .u64 2, .int .u64 0, .int .u64 3], .int .i64 0]) ∧ Below w.heap.size w w' := by
  refine (reduce_at (n := ⟨12, by decide⟩) (d := ⟨18, by decide⟩) (by kernel_rfl) (by kernel_rfl) (by kernel_rfl) (by kernel_rfl) (by decide) w).mono ?_
  rintro e w' ⟨rfl, hb⟩
  exact ⟨fe_eq (by kernel_rfl) (by kernel_rfl) (by kernel_rfl) (by kernel_rfl) rfl, hb⟩
theorem l2_red0 (w : World) : Calls Tryd.prog 25 #[.agg #[.int .u64 0, .int .u64 1], .agg #[.int .u64 0, .int .u64 0]] w fun e w' => e = .returned (.tuple #[.agg #[.int .u64 0, .int .u64 0, .int .u64 0, .int .u64 0], .int .i64 1]) ∧ Below w.heap.size w w' := by
  refine (reduce0_at (n := ⟨1, by decide⟩) (d := ⟨0, by decide⟩) (by kernel_rfl) (by kernel_rfl) (by kernel_rfl) (by kernel_rfl) rfl w).mono ?_
  rintro e w' ⟨rfl, hb⟩
  exact ⟨rfl, hb⟩
theorem l2_redz (w : World) : Calls Tryd.prog 25 #[.agg #[.int .u64 0, .int .u64 0], .agg #[.int .u64 0, .int .u64 7]] w fun e w' => e = .returned (.tuple #[.agg #[.int .u64 0, .int .u64 0, .int .u64 0, .int .u64 1], .int .i64 0]) ∧ Below w.heap.size w w' := by
  refine (reduce_at (n := ⟨0, by decide⟩) (d := ⟨7, by decide⟩) (by kernel_rfl) (by kernel_rfl) (by kernel_rfl) (by kernel_rfl) (by decide) w).mono ?_
  rintro e w' ⟨rfl, hb⟩
  exact ⟨fe_eq (by kernel_rfl) (by kernel_rfl) (by kernel_rfl) (by kernel_rfl) rfl, hb⟩
theorem l2_rate (w : World) : Calls Tryd.prog 27 #[.agg #[.int .u64 0, .int .u64 3], .int .u64 1500] w fun e w' => e = .returned (.tuple #[.agg #[.int .u64 0, .int .u64 2, .int .u64 0, .int .u64 1], .int .i64 0]) ∧ Below w.heap.size w w' := by
  refine (rate_at (a := ⟨3, by decide⟩) (by kernel_rfl) (by kernel_rfl) 1500 (by decide) (by decide) (by decide) w).mono ?_
  rintro e w' ⟨rfl, hb⟩
  exact ⟨fe_eq (by kernel_rfl) (by kernel_rfl) (by kernel_rfl) (by kernel_rfl) rfl, hb⟩
theorem l2_rate0 (w : World) : Calls Tryd.prog 27 #[.agg #[.int .u64 0, .int .u64 3], .int .u64 0] w fun e w' => e = .returned (.tuple #[.agg #[.int .u64 0, .int .u64 0, .int .u64 0, .int .u64 0], .int .i64 12]) ∧ Below w.heap.size w w' := by
  refine (rate0_at (n := ⟨3, by decide⟩) (by kernel_rfl) (by kernel_rfl) w).mono ?_
  rintro e w' ⟨rfl, hb⟩
  exact ⟨rfl, hb⟩
theorem l2_less (w : World) : Calls Tryd.prog 38 #[.agg #[.int .u64 0, .int .u64 2, .int .u64 0, .int .u64 1], .agg #[.int .u64 0, .int .u64 2, .int .u64 0, .int .u64 3]] w fun e w' => e = .returned (.tuple #[.bool false, .int .i64 0]) ∧ Below w.heap.size w w' := by
  refine (rless_at (a := ⟨2, by decide⟩) (b := ⟨1, by decide⟩) (c := ⟨2, by decide⟩) (d := ⟨3, by decide⟩) (by kernel_rfl) (by kernel_rfl) (by kernel_rfl) (by kernel_rfl) (by kernel_rfl) (by kernel_rfl) (by kernel_rfl) (by kernel_rfl) w).mono ?_
  rintro e w' ⟨rfl, hb⟩
  exact ⟨be_eq (by decide +kernel) (by decide +kernel), hb⟩
theorem l2_floor (w : World) : Calls Tryd.prog 29 #[.agg #[.int .u64 0, .int .u64 7, .int .u64 0, .int .u64 2]] w fun e w' => e = .returned (.tuple #[.agg #[.int .u64 0, .int .u64 3], .int .i64 0]) ∧ Below w.heap.size w w' := by
  refine (floor_at (n := ⟨7, by decide⟩) (d := ⟨2, by decide⟩) (by kernel_rfl) (by kernel_rfl) (by kernel_rfl) (by kernel_rfl) (by decide) w).mono ?_
  rintro e w' ⟨rfl, hb⟩
  exact ⟨we_eq' (by kernel_rfl) (by kernel_rfl) rfl, hb⟩
theorem l2_check (w : World) : Calls Tryd.prog 34 #[.agg #[.int .u64 0, .int .u64 2, .int .u64 0, .int .u64 3]] w fun e w' => e = .returned (.int .i64 0) ∧ Below w.heap.size w w' := by
  refine (check_at (n := ⟨2, by decide⟩) (d := ⟨3, by decide⟩) (by kernel_rfl) (by kernel_rfl) (by kernel_rfl) (by kernel_rfl) w).mono ?_
  rintro e w' ⟨rfl, hb⟩
  exact ⟨i_eq (by decide +kernel), hb⟩
theorem l2_check0 (w : World) : Calls Tryd.prog 34 #[.agg #[.int .u64 0, .int .u64 0, .int .u64 0, .int .u64 0]] w fun e w' => e = .returned (.int .i64 2) ∧ Below w.heap.size w w' := by
  refine (check_at (n := ⟨0, by decide⟩) (d := ⟨0, by decide⟩) (by kernel_rfl) (by kernel_rfl) (by kernel_rfl) (by kernel_rfl) w).mono ?_
  rintro e w' ⟨rfl, hb⟩
  exact ⟨i_eq (by decide +kernel), hb⟩
theorem l2_gcd (w : World) : Calls Tryd.prog 32 #[.agg #[.int .u64 0, .int .u64 12], .agg #[.int .u64 0, .int .u64 18]] w fun e w' => e = .returned (.agg #[.int .u64 0, .int .u64 6]) ∧ Below w.heap.size w w' := by
  refine (gcd_at (n := ⟨12, by decide⟩) (d := ⟨18, by decide⟩) (by kernel_rfl) (by kernel_rfl) (by kernel_rfl) (by kernel_rfl) w).mono ?_
  rintro e w' ⟨rfl, hb⟩
  exact ⟨wv_eq (by kernel_rfl) (by kernel_rfl), hb⟩
set_option maxHeartbeats 8000000 in
set_option maxRecDepth 100000 in
theorem lives2_any (w : World) (htab : tabs w) :
    Calls Tryd.prog 31 #[] w fun e w' => e = .returned (.bool true) ∧ Below w.heap.size w w' := by
  have HT := Lib.hid htab
  clear htab
  go_enter Tryd.func31, Tryd.ntmps31
  go_wp2_with (go_at_call 18; refine (of_any _ _).mono ?_; rintro e wo ⟨rfl, rfl⟩)
  refine (l2_red _).mono ?_
  rintro e w1 ⟨rfl, hb1⟩
  have B1 : Below w.heap.size w w1 := (by refine below_of ?_ hb1; go_grown)
  clear hb1
  have z1 := B1.size
  go_wp2_with (go_at_call 18; refine (of_any _ _).mono ?_; rintro e wo ⟨rfl, rfl⟩)
  refine (l2_red0 _).mono ?_
  rintro e w2 ⟨rfl, hb2⟩
  have B2 : Below w.heap.size w w2 := (by refine below_of ?_ hb2; go_grown)
  have kf2 : Blk4 w2 (w1.heap.size) (0) (2) (0) (3) := (by refine Blk4.keep ?_ hb2; repeat' (first | (with_reducible assumption) | ((with_reducible refine Blk2.new_at _ _ ?_); (simp; done)) | ((with_reducible refine Blk4.new_at _ _ ?_); (simp; done)) | (with_reducible refine Blk2.drew ?_) | (with_reducible refine Blk2.drewN ?_) | (with_reducible refine Blk2.alloc ?_ _) | (with_reducible refine Blk4.drew ?_) | (with_reducible refine Blk4.drewN ?_) | (with_reducible refine Blk4.alloc ?_ _)))
  clear hb2 B1 z1
  have z2 := B2.size
  have cf2 := kf2.c0; have df2 := kf2.c1; have ef2 := kf2.c2; have hf2 := kf2.c3; have ff2 := kf2.f 0; have gf2 := kf2.f 1; have if2 := kf2.f 2; have jf2 := kf2.f 3; have lf2 := kf2.lt
  go_wp2_with (go_at_call 18; refine (of_any _ _).mono ?_; rintro e wo ⟨rfl, rfl⟩)
  refine (l2_redz _).mono ?_
  rintro e w3 ⟨rfl, hb3⟩
  have B3 : Below w.heap.size w w3 := (by refine below_of ?_ hb3; go_grown)
  have kf3 : Blk4 w3 (w1.heap.size) (0) (2) (0) (3) := (by refine Blk4.keep ?_ hb3; repeat' (first | (with_reducible assumption) | ((with_reducible refine Blk2.new_at _ _ ?_); (simp; done)) | ((with_reducible refine Blk4.new_at _ _ ?_); (simp; done)) | (with_reducible refine Blk2.drew ?_) | (with_reducible refine Blk2.drewN ?_) | (with_reducible refine Blk2.alloc ?_ _) | (with_reducible refine Blk4.drew ?_) | (with_reducible refine Blk4.drewN ?_) | (with_reducible refine Blk4.alloc ?_ _)))
  clear hb3 B2 z2 kf2 cf2 df2 ef2 hf2 ff2 gf2 if2 jf2 lf2
  have z3 := B3.size
  have cf3 := kf3.c0; have df3 := kf3.c1; have ef3 := kf3.c2; have hf3 := kf3.c3; have ff3 := kf3.f 0; have gf3 := kf3.f 1; have if3 := kf3.f 2; have jf3 := kf3.f 3; have lf3 := kf3.lt
  go_wp2_with (go_at_call 18; refine (of_any _ _).mono ?_; rintro e wo ⟨rfl, rfl⟩)
  refine (l2_rate _).mono ?_
  rintro e w4 ⟨rfl, hb4⟩
  have B4 : Below w.heap.size w w4 := (by refine below_of ?_ hb4; go_grown)
  have kf4 : Blk4 w4 (w1.heap.size) (0) (2) (0) (3) := (by refine Blk4.keep ?_ hb4; repeat' (first | (with_reducible assumption) | ((with_reducible refine Blk2.new_at _ _ ?_); (simp; done)) | ((with_reducible refine Blk4.new_at _ _ ?_); (simp; done)) | (with_reducible refine Blk2.drew ?_) | (with_reducible refine Blk2.drewN ?_) | (with_reducible refine Blk2.alloc ?_ _) | (with_reducible refine Blk4.drew ?_) | (with_reducible refine Blk4.drewN ?_) | (with_reducible refine Blk4.alloc ?_ _)))
  have kz4 : Blk4 w4 (w3.heap.size) (0) (0) (0) (1) := (by refine Blk4.keep ?_ hb4; repeat' (first | (with_reducible assumption) | ((with_reducible refine Blk2.new_at _ _ ?_); (simp; done)) | ((with_reducible refine Blk4.new_at _ _ ?_); (simp; done)) | (with_reducible refine Blk2.drew ?_) | (with_reducible refine Blk2.drewN ?_) | (with_reducible refine Blk2.alloc ?_ _) | (with_reducible refine Blk4.drew ?_) | (with_reducible refine Blk4.drewN ?_) | (with_reducible refine Blk4.alloc ?_ _)))
  clear hb4 B3 z3 kf3 cf3 df3 ef3 hf3 ff3 gf3 if3 jf3 lf3
  have z4 := B4.size
  have cf4 := kf4.c0; have df4 := kf4.c1; have ef4 := kf4.c2; have hf4 := kf4.c3; have ff4 := kf4.f 0; have gf4 := kf4.f 1; have if4 := kf4.f 2; have jf4 := kf4.f 3; have lf4 := kf4.lt
  have cz4 := kz4.c0; have dz4 := kz4.c1; have ez4 := kz4.c2; have hz4 := kz4.c3; have fz4 := kz4.f 0; have gz4 := kz4.f 1; have iz4 := kz4.f 2; have jz4 := kz4.f 3; have lz4 := kz4.lt
  go_wp2_with (go_at_call 18; refine (of_any _ _).mono ?_; rintro e wo ⟨rfl, rfl⟩)
  refine (l2_rate0 _).mono ?_
  rintro e w5 ⟨rfl, hb5⟩
  have B5 : Below w.heap.size w w5 := (by refine below_of ?_ hb5; go_grown)
  have kf5 : Blk4 w5 (w1.heap.size) (0) (2) (0) (3) := (by refine Blk4.keep ?_ hb5; repeat' (first | (with_reducible assumption) | ((with_reducible refine Blk2.new_at _ _ ?_); (simp; done)) | ((with_reducible refine Blk4.new_at _ _ ?_); (simp; done)) | (with_reducible refine Blk2.drew ?_) | (with_reducible refine Blk2.drewN ?_) | (with_reducible refine Blk2.alloc ?_ _) | (with_reducible refine Blk4.drew ?_) | (with_reducible refine Blk4.drewN ?_) | (with_reducible refine Blk4.alloc ?_ _)))
  have kz5 : Blk4 w5 (w3.heap.size) (0) (0) (0) (1) := (by refine Blk4.keep ?_ hb5; repeat' (first | (with_reducible assumption) | ((with_reducible refine Blk2.new_at _ _ ?_); (simp; done)) | ((with_reducible refine Blk4.new_at _ _ ?_); (simp; done)) | (with_reducible refine Blk2.drew ?_) | (with_reducible refine Blk2.drewN ?_) | (with_reducible refine Blk2.alloc ?_ _) | (with_reducible refine Blk4.drew ?_) | (with_reducible refine Blk4.drewN ?_) | (with_reducible refine Blk4.alloc ?_ _)))
  have kr5 : Blk4 w5 (w4.heap.size) (0) (2) (0) (1) := (by refine Blk4.keep ?_ hb5; repeat' (first | (with_reducible assumption) | ((with_reducible refine Blk2.new_at _ _ ?_); (simp; done)) | ((with_reducible refine Blk4.new_at _ _ ?_); (simp; done)) | (with_reducible refine Blk2.drew ?_) | (with_reducible refine Blk2.drewN ?_) | (with_reducible refine Blk2.alloc ?_ _) | (with_reducible refine Blk4.drew ?_) | (with_reducible refine Blk4.drewN ?_) | (with_reducible refine Blk4.alloc ?_ _)))
  clear hb5 B4 z4 kf4 cf4 df4 ef4 hf4 ff4 gf4 if4 jf4 lf4 kz4 cz4 dz4 ez4 hz4 fz4 gz4 iz4 jz4 lz4
  have z5 := B5.size
  have cf5 := kf5.c0; have df5 := kf5.c1; have ef5 := kf5.c2; have hf5 := kf5.c3; have ff5 := kf5.f 0; have gf5 := kf5.f 1; have if5 := kf5.f 2; have jf5 := kf5.f 3; have lf5 := kf5.lt
  have cz5 := kz5.c0; have dz5 := kz5.c1; have ez5 := kz5.c2; have hz5 := kz5.c3; have fz5 := kz5.f 0; have gz5 := kz5.f 1; have iz5 := kz5.f 2; have jz5 := kz5.f 3; have lz5 := kz5.lt
  have cr5 := kr5.c0; have dr5 := kr5.c1; have er5 := kr5.c2; have hr5 := kr5.c3; have fr5 := kr5.f 0; have gr5 := kr5.f 1; have ir5 := kr5.f 2; have jr5 := kr5.f 3; have lr5 := kr5.lt
  go_wp2_with (go_at_call 18; refine (of_any _ _).mono ?_; rintro e wo ⟨rfl, rfl⟩)
  refine (l2_less _).mono ?_
  rintro e w6 ⟨rfl, hb6⟩
  have B6 : Below w.heap.size w w6 := (by refine below_of ?_ hb6; go_grown)
  have kf6 : Blk4 w6 (w1.heap.size) (0) (2) (0) (3) := (by refine Blk4.keep ?_ hb6; repeat' (first | (with_reducible assumption) | ((with_reducible refine Blk2.new_at _ _ ?_); (simp; done)) | ((with_reducible refine Blk4.new_at _ _ ?_); (simp; done)) | (with_reducible refine Blk2.drew ?_) | (with_reducible refine Blk2.drewN ?_) | (with_reducible refine Blk2.alloc ?_ _) | (with_reducible refine Blk4.drew ?_) | (with_reducible refine Blk4.drewN ?_) | (with_reducible refine Blk4.alloc ?_ _)))
  have kz6 : Blk4 w6 (w3.heap.size) (0) (0) (0) (1) := (by refine Blk4.keep ?_ hb6; repeat' (first | (with_reducible assumption) | ((with_reducible refine Blk2.new_at _ _ ?_); (simp; done)) | ((with_reducible refine Blk4.new_at _ _ ?_); (simp; done)) | (with_reducible refine Blk2.drew ?_) | (with_reducible refine Blk2.drewN ?_) | (with_reducible refine Blk2.alloc ?_ _) | (with_reducible refine Blk4.drew ?_) | (with_reducible refine Blk4.drewN ?_) | (with_reducible refine Blk4.alloc ?_ _)))
  have kr6 : Blk4 w6 (w4.heap.size) (0) (2) (0) (1) := (by refine Blk4.keep ?_ hb6; repeat' (first | (with_reducible assumption) | ((with_reducible refine Blk2.new_at _ _ ?_); (simp; done)) | ((with_reducible refine Blk4.new_at _ _ ?_); (simp; done)) | (with_reducible refine Blk2.drew ?_) | (with_reducible refine Blk2.drewN ?_) | (with_reducible refine Blk2.alloc ?_ _) | (with_reducible refine Blk4.drew ?_) | (with_reducible refine Blk4.drewN ?_) | (with_reducible refine Blk4.alloc ?_ _)))
  clear hb6 B5 z5 kf5 cf5 df5 ef5 hf5 ff5 gf5 if5 jf5 lf5 kz5 cz5 dz5 ez5 hz5 fz5 gz5 iz5 jz5 lz5 kr5 cr5 dr5 er5 hr5 fr5 gr5 ir5 jr5 lr5
  have z6 := B6.size
  have cf6 := kf6.c0; have df6 := kf6.c1; have ef6 := kf6.c2; have hf6 := kf6.c3; have ff6 := kf6.f 0; have gf6 := kf6.f 1; have if6 := kf6.f 2; have jf6 := kf6.f 3; have lf6 := kf6.lt
  have cz6 := kz6.c0; have dz6 := kz6.c1; have ez6 := kz6.c2; have hz6 := kz6.c3; have fz6 := kz6.f 0; have gz6 := kz6.f 1; have iz6 := kz6.f 2; have jz6 := kz6.f 3; have lz6 := kz6.lt
  have cr6 := kr6.c0; have dr6 := kr6.c1; have er6 := kr6.c2; have hr6 := kr6.c3; have fr6 := kr6.f 0; have gr6 := kr6.f 1; have ir6 := kr6.f 2; have jr6 := kr6.f 3; have lr6 := kr6.lt
  go_wp2_with (go_at_call 18; refine (of_any _ _).mono ?_; rintro e wo ⟨rfl, rfl⟩)
  refine (l2_floor _).mono ?_
  rintro e w7 ⟨rfl, hb7⟩
  have B7 : Below w.heap.size w w7 := (by refine below_of ?_ hb7; go_grown)
  have kf7 : Blk4 w7 (w1.heap.size) (0) (2) (0) (3) := (by refine Blk4.keep ?_ hb7; repeat' (first | (with_reducible assumption) | ((with_reducible refine Blk2.new_at _ _ ?_); (simp; done)) | ((with_reducible refine Blk4.new_at _ _ ?_); (simp; done)) | (with_reducible refine Blk2.drew ?_) | (with_reducible refine Blk2.drewN ?_) | (with_reducible refine Blk2.alloc ?_ _) | (with_reducible refine Blk4.drew ?_) | (with_reducible refine Blk4.drewN ?_) | (with_reducible refine Blk4.alloc ?_ _)))
  have kz7 : Blk4 w7 (w3.heap.size) (0) (0) (0) (1) := (by refine Blk4.keep ?_ hb7; repeat' (first | (with_reducible assumption) | ((with_reducible refine Blk2.new_at _ _ ?_); (simp; done)) | ((with_reducible refine Blk4.new_at _ _ ?_); (simp; done)) | (with_reducible refine Blk2.drew ?_) | (with_reducible refine Blk2.drewN ?_) | (with_reducible refine Blk2.alloc ?_ _) | (with_reducible refine Blk4.drew ?_) | (with_reducible refine Blk4.drewN ?_) | (with_reducible refine Blk4.alloc ?_ _)))
  have kr7 : Blk4 w7 (w4.heap.size) (0) (2) (0) (1) := (by refine Blk4.keep ?_ hb7; repeat' (first | (with_reducible assumption) | ((with_reducible refine Blk2.new_at _ _ ?_); (simp; done)) | ((with_reducible refine Blk4.new_at _ _ ?_); (simp; done)) | (with_reducible refine Blk2.drew ?_) | (with_reducible refine Blk2.drewN ?_) | (with_reducible refine Blk2.alloc ?_ _) | (with_reducible refine Blk4.drew ?_) | (with_reducible refine Blk4.drewN ?_) | (with_reducible refine Blk4.alloc ?_ _)))
  clear hb7 B6 z6 kf6 cf6 df6 ef6 hf6 ff6 gf6 if6 jf6 lf6 kz6 cz6 dz6 ez6 hz6 fz6 gz6 iz6 jz6 lz6 kr6 cr6 dr6 er6 hr6 fr6 gr6 ir6 jr6 lr6
  have z7 := B7.size
  have cf7 := kf7.c0; have df7 := kf7.c1; have ef7 := kf7.c2; have hf7 := kf7.c3; have ff7 := kf7.f 0; have gf7 := kf7.f 1; have if7 := kf7.f 2; have jf7 := kf7.f 3; have lf7 := kf7.lt
  have cz7 := kz7.c0; have dz7 := kz7.c1; have ez7 := kz7.c2; have hz7 := kz7.c3; have fz7 := kz7.f 0; have gz7 := kz7.f 1; have iz7 := kz7.f 2; have jz7 := kz7.f 3; have lz7 := kz7.lt
  have cr7 := kr7.c0; have dr7 := kr7.c1; have er7 := kr7.c2; have hr7 := kr7.c3; have fr7 := kr7.f 0; have gr7 := kr7.f 1; have ir7 := kr7.f 2; have jr7 := kr7.f 3; have lr7 := kr7.lt
  go_wp2_with (go_at_call 18; refine (of_any _ _).mono ?_; rintro e wo ⟨rfl, rfl⟩)
  have kn7 : Blk2 (w7.alloc (.cells #[.int .u64 0, .int .u64 3] 24)) w7.heap.size 0 3 := Blk2.new _ _ _
  have ln7 := kn7.lt; have cn7 := kn7.c0; have dn7 := kn7.c1
  try dsimp only [List.append]
  go_region_held3 (fun w' => w'.cell? ⟨w1.heap.size, 0, none⟩ = some (.int .u64 0) ∧ w'.cell? ⟨w1.heap.size, 1, none⟩ = some (.int .u64 2) ∧ w'.cell? ⟨w1.heap.size, 2, none⟩ = some (.int .u64 0) ∧ w'.cell? ⟨w1.heap.size, 3, none⟩ = some (.int .u64 3) ∧ w'.cell? ⟨w3.heap.size, 0, none⟩ = some (.int .u64 0) ∧ w'.cell? ⟨w3.heap.size, 1, none⟩ = some (.int .u64 0) ∧ w'.cell? ⟨w3.heap.size, 2, none⟩ = some (.int .u64 0) ∧ w'.cell? ⟨w3.heap.size, 3, none⟩ = some (.int .u64 1) ∧ w'.cell? ⟨w4.heap.size, 0, none⟩ = some (.int .u64 0) ∧ w'.cell? ⟨w4.heap.size, 1, none⟩ = some (.int .u64 2) ∧ w'.cell? ⟨w4.heap.size, 2, none⟩ = some (.int .u64 0) ∧ w'.cell? ⟨w4.heap.size, 3, none⟩ = some (.int .u64 1) ∧ w'.cell? ⟨w7.heap.size, 0, none⟩ = some (.int .u64 0) ∧ w'.cell? ⟨w7.heap.size, 1, none⟩ = some (.int .u64 3)) (first | exact ⟨by assumption, by assumption, by assumption, by assumption, by assumption, by assumption, by assumption, by assumption, by assumption, by assumption, by assumption, by assumption, by assumption, by assumption⟩ | go_keep) (first
    | (go_at_call 18; refine (of_below _ _).mono ?_; rintro e wx ⟨rfl, hbx⟩; have xf : Blk4 wx (w1.heap.size) 0 2 0 3 := (by refine Blk4.keep ?_ hbx; repeat' (first | (with_reducible assumption) | ((with_reducible refine Blk2.new_at _ _ ?_); (simp; done)) | ((with_reducible refine Blk4.new_at _ _ ?_); (simp; done)) | (with_reducible refine Blk2.drew ?_) | (with_reducible refine Blk2.drewN ?_) | (with_reducible refine Blk2.alloc ?_ _) | (with_reducible refine Blk4.drew ?_) | (with_reducible refine Blk4.drewN ?_) | (with_reducible refine Blk4.alloc ?_ _))); have xz : Blk4 wx (w3.heap.size) 0 0 0 1 := (by refine Blk4.keep ?_ hbx; repeat' (first | (with_reducible assumption) | ((with_reducible refine Blk2.new_at _ _ ?_); (simp; done)) | ((with_reducible refine Blk4.new_at _ _ ?_); (simp; done)) | (with_reducible refine Blk2.drew ?_) | (with_reducible refine Blk2.drewN ?_) | (with_reducible refine Blk2.alloc ?_ _) | (with_reducible refine Blk4.drew ?_) | (with_reducible refine Blk4.drewN ?_) | (with_reducible refine Blk4.alloc ?_ _))); have xr : Blk4 wx (w4.heap.size) 0 2 0 1 := (by refine Blk4.keep ?_ hbx; repeat' (first | (with_reducible assumption) | ((with_reducible refine Blk2.new_at _ _ ?_); (simp; done)) | ((with_reducible refine Blk4.new_at _ _ ?_); (simp; done)) | (with_reducible refine Blk2.drew ?_) | (with_reducible refine Blk2.drewN ?_) | (with_reducible refine Blk2.alloc ?_ _) | (with_reducible refine Blk4.drew ?_) | (with_reducible refine Blk4.drewN ?_) | (with_reducible refine Blk4.alloc ?_ _))); have xn : Blk2 wx (w7.heap.size) 0 3 := (by refine Blk2.keep ?_ hbx; repeat' (first | (with_reducible assumption) | ((with_reducible refine Blk2.new_at _ _ ?_); (simp; done)) | ((with_reducible refine Blk4.new_at _ _ ?_); (simp; done)) | (with_reducible refine Blk2.drew ?_) | (with_reducible refine Blk2.drewN ?_) | (with_reducible refine Blk2.alloc ?_ _) | (with_reducible refine Blk4.drew ?_) | (with_reducible refine Blk4.drewN ?_) | (with_reducible refine Blk4.alloc ?_ _))); have xf0 := xf.c0; have xf1 := xf.c1; have xf2 := xf.c2; have xf3 := xf.c3; have xf9 := xf.lt; have xz0 := xz.c0; have xz1 := xz.c1; have xz2 := xz.c2; have xz3 := xz.c3; have xz9 := xz.lt; have xr0 := xr.c0; have xr1 := xr.c1; have xr2 := xr.c2; have xr3 := xr.c3; have xr9 := xr.lt; have xn0 := xn.c0; have xn1 := xn.c1; have xn9 := xn.lt; have xB : Below w.heap.size w wx := (by refine below_of ?_ hbx; go_grown); have xz := xB.size; clear hbx)
    | (go_at_call 36; refine (l2_text _ (tabs_stays HT.out (by go_grown))).mono ?_; rintro e wx ⟨rfl, hbx⟩; have xf : Blk4 wx (w1.heap.size) 0 2 0 3 := (by refine Blk4.keep ?_ hbx; repeat' (first | (with_reducible assumption) | ((with_reducible refine Blk2.new_at _ _ ?_); (simp; done)) | ((with_reducible refine Blk4.new_at _ _ ?_); (simp; done)) | (with_reducible refine Blk2.drew ?_) | (with_reducible refine Blk2.drewN ?_) | (with_reducible refine Blk2.alloc ?_ _) | (with_reducible refine Blk4.drew ?_) | (with_reducible refine Blk4.drewN ?_) | (with_reducible refine Blk4.alloc ?_ _))); have xz : Blk4 wx (w3.heap.size) 0 0 0 1 := (by refine Blk4.keep ?_ hbx; repeat' (first | (with_reducible assumption) | ((with_reducible refine Blk2.new_at _ _ ?_); (simp; done)) | ((with_reducible refine Blk4.new_at _ _ ?_); (simp; done)) | (with_reducible refine Blk2.drew ?_) | (with_reducible refine Blk2.drewN ?_) | (with_reducible refine Blk2.alloc ?_ _) | (with_reducible refine Blk4.drew ?_) | (with_reducible refine Blk4.drewN ?_) | (with_reducible refine Blk4.alloc ?_ _))); have xr : Blk4 wx (w4.heap.size) 0 2 0 1 := (by refine Blk4.keep ?_ hbx; repeat' (first | (with_reducible assumption) | ((with_reducible refine Blk2.new_at _ _ ?_); (simp; done)) | ((with_reducible refine Blk4.new_at _ _ ?_); (simp; done)) | (with_reducible refine Blk2.drew ?_) | (with_reducible refine Blk2.drewN ?_) | (with_reducible refine Blk2.alloc ?_ _) | (with_reducible refine Blk4.drew ?_) | (with_reducible refine Blk4.drewN ?_) | (with_reducible refine Blk4.alloc ?_ _))); have xn : Blk2 wx (w7.heap.size) 0 3 := (by refine Blk2.keep ?_ hbx; repeat' (first | (with_reducible assumption) | ((with_reducible refine Blk2.new_at _ _ ?_); (simp; done)) | ((with_reducible refine Blk4.new_at _ _ ?_); (simp; done)) | (with_reducible refine Blk2.drew ?_) | (with_reducible refine Blk2.drewN ?_) | (with_reducible refine Blk2.alloc ?_ _) | (with_reducible refine Blk4.drew ?_) | (with_reducible refine Blk4.drewN ?_) | (with_reducible refine Blk4.alloc ?_ _))); have xf0 := xf.c0; have xf1 := xf.c1; have xf2 := xf.c2; have xf3 := xf.c3; have xf9 := xf.lt; have xz0 := xz.c0; have xz1 := xz.c1; have xz2 := xz.c2; have xz3 := xz.c3; have xz9 := xz.lt; have xr0 := xr.c0; have xr1 := xr.c1; have xr2 := xr.c2; have xr3 := xr.c3; have xr9 := xr.lt; have xn0 := xn.c0; have xn1 := xn.c1; have xn9 := xn.lt; have xB : Below w.heap.size w wx := (by refine below_of ?_ hbx; go_grown); have xz := xB.size; clear hbx)
    | (go_at_call 32; refine (l2_gcd _).mono ?_; rintro e wx ⟨rfl, hbx⟩; have xf : Blk4 wx (w1.heap.size) 0 2 0 3 := (by refine Blk4.keep ?_ hbx; repeat' (first | (with_reducible assumption) | ((with_reducible refine Blk2.new_at _ _ ?_); (simp; done)) | ((with_reducible refine Blk4.new_at _ _ ?_); (simp; done)) | (with_reducible refine Blk2.drew ?_) | (with_reducible refine Blk2.drewN ?_) | (with_reducible refine Blk2.alloc ?_ _) | (with_reducible refine Blk4.drew ?_) | (with_reducible refine Blk4.drewN ?_) | (with_reducible refine Blk4.alloc ?_ _))); have xz : Blk4 wx (w3.heap.size) 0 0 0 1 := (by refine Blk4.keep ?_ hbx; repeat' (first | (with_reducible assumption) | ((with_reducible refine Blk2.new_at _ _ ?_); (simp; done)) | ((with_reducible refine Blk4.new_at _ _ ?_); (simp; done)) | (with_reducible refine Blk2.drew ?_) | (with_reducible refine Blk2.drewN ?_) | (with_reducible refine Blk2.alloc ?_ _) | (with_reducible refine Blk4.drew ?_) | (with_reducible refine Blk4.drewN ?_) | (with_reducible refine Blk4.alloc ?_ _))); have xr : Blk4 wx (w4.heap.size) 0 2 0 1 := (by refine Blk4.keep ?_ hbx; repeat' (first | (with_reducible assumption) | ((with_reducible refine Blk2.new_at _ _ ?_); (simp; done)) | ((with_reducible refine Blk4.new_at _ _ ?_); (simp; done)) | (with_reducible refine Blk2.drew ?_) | (with_reducible refine Blk2.drewN ?_) | (with_reducible refine Blk2.alloc ?_ _) | (with_reducible refine Blk4.drew ?_) | (with_reducible refine Blk4.drewN ?_) | (with_reducible refine Blk4.alloc ?_ _))); have xn : Blk2 wx (w7.heap.size) 0 3 := (by refine Blk2.keep ?_ hbx; repeat' (first | (with_reducible assumption) | ((with_reducible refine Blk2.new_at _ _ ?_); (simp; done)) | ((with_reducible refine Blk4.new_at _ _ ?_); (simp; done)) | (with_reducible refine Blk2.drew ?_) | (with_reducible refine Blk2.drewN ?_) | (with_reducible refine Blk2.alloc ?_ _) | (with_reducible refine Blk4.drew ?_) | (with_reducible refine Blk4.drewN ?_) | (with_reducible refine Blk4.alloc ?_ _))); have xf0 := xf.c0; have xf1 := xf.c1; have xf2 := xf.c2; have xf3 := xf.c3; have xf9 := xf.lt; have xz0 := xz.c0; have xz1 := xz.c1; have xz2 := xz.c2; have xz3 := xz.c3; have xz9 := xz.lt; have xr0 := xr.c0; have xr1 := xr.c1; have xr2 := xr.c2; have xr3 := xr.c3; have xr9 := xr.lt; have xn0 := xn.c0; have xn1 := xn.c1; have xn9 := xn.lt; have xB : Below w.heap.size w wx := (by refine below_of ?_ hbx; go_grown); have xz := xB.size; clear hbx)
    | (go_at_call_of 34 (Value.agg #[.int .u64 0, .int .u64 2, .int .u64 0, .int .u64 3]); refine (l2_check _).mono ?_; rintro e wx ⟨rfl, hbx⟩; have xf : Blk4 wx (w1.heap.size) 0 2 0 3 := (by refine Blk4.keep ?_ hbx; repeat' (first | (with_reducible assumption) | ((with_reducible refine Blk2.new_at _ _ ?_); (simp; done)) | ((with_reducible refine Blk4.new_at _ _ ?_); (simp; done)) | (with_reducible refine Blk2.drew ?_) | (with_reducible refine Blk2.drewN ?_) | (with_reducible refine Blk2.alloc ?_ _) | (with_reducible refine Blk4.drew ?_) | (with_reducible refine Blk4.drewN ?_) | (with_reducible refine Blk4.alloc ?_ _))); have xz : Blk4 wx (w3.heap.size) 0 0 0 1 := (by refine Blk4.keep ?_ hbx; repeat' (first | (with_reducible assumption) | ((with_reducible refine Blk2.new_at _ _ ?_); (simp; done)) | ((with_reducible refine Blk4.new_at _ _ ?_); (simp; done)) | (with_reducible refine Blk2.drew ?_) | (with_reducible refine Blk2.drewN ?_) | (with_reducible refine Blk2.alloc ?_ _) | (with_reducible refine Blk4.drew ?_) | (with_reducible refine Blk4.drewN ?_) | (with_reducible refine Blk4.alloc ?_ _))); have xr : Blk4 wx (w4.heap.size) 0 2 0 1 := (by refine Blk4.keep ?_ hbx; repeat' (first | (with_reducible assumption) | ((with_reducible refine Blk2.new_at _ _ ?_); (simp; done)) | ((with_reducible refine Blk4.new_at _ _ ?_); (simp; done)) | (with_reducible refine Blk2.drew ?_) | (with_reducible refine Blk2.drewN ?_) | (with_reducible refine Blk2.alloc ?_ _) | (with_reducible refine Blk4.drew ?_) | (with_reducible refine Blk4.drewN ?_) | (with_reducible refine Blk4.alloc ?_ _))); have xn : Blk2 wx (w7.heap.size) 0 3 := (by refine Blk2.keep ?_ hbx; repeat' (first | (with_reducible assumption) | ((with_reducible refine Blk2.new_at _ _ ?_); (simp; done)) | ((with_reducible refine Blk4.new_at _ _ ?_); (simp; done)) | (with_reducible refine Blk2.drew ?_) | (with_reducible refine Blk2.drewN ?_) | (with_reducible refine Blk2.alloc ?_ _) | (with_reducible refine Blk4.drew ?_) | (with_reducible refine Blk4.drewN ?_) | (with_reducible refine Blk4.alloc ?_ _))); have xf0 := xf.c0; have xf1 := xf.c1; have xf2 := xf.c2; have xf3 := xf.c3; have xf9 := xf.lt; have xz0 := xz.c0; have xz1 := xz.c1; have xz2 := xz.c2; have xz3 := xz.c3; have xz9 := xz.lt; have xr0 := xr.c0; have xr1 := xr.c1; have xr2 := xr.c2; have xr3 := xr.c3; have xr9 := xr.lt; have xn0 := xn.c0; have xn1 := xn.c1; have xn9 := xn.lt; have xB : Below w.heap.size w wx := (by refine below_of ?_ hbx; go_grown); have xz := xB.size; clear hbx)
    | (go_at_call_of 34 (Value.agg #[.int .u64 0, .int .u64 0, .int .u64 0, .int .u64 0]); refine (l2_check0 _).mono ?_; rintro e wx ⟨rfl, hbx⟩; have xf : Blk4 wx (w1.heap.size) 0 2 0 3 := (by refine Blk4.keep ?_ hbx; repeat' (first | (with_reducible assumption) | ((with_reducible refine Blk2.new_at _ _ ?_); (simp; done)) | ((with_reducible refine Blk4.new_at _ _ ?_); (simp; done)) | (with_reducible refine Blk2.drew ?_) | (with_reducible refine Blk2.drewN ?_) | (with_reducible refine Blk2.alloc ?_ _) | (with_reducible refine Blk4.drew ?_) | (with_reducible refine Blk4.drewN ?_) | (with_reducible refine Blk4.alloc ?_ _))); have xz : Blk4 wx (w3.heap.size) 0 0 0 1 := (by refine Blk4.keep ?_ hbx; repeat' (first | (with_reducible assumption) | ((with_reducible refine Blk2.new_at _ _ ?_); (simp; done)) | ((with_reducible refine Blk4.new_at _ _ ?_); (simp; done)) | (with_reducible refine Blk2.drew ?_) | (with_reducible refine Blk2.drewN ?_) | (with_reducible refine Blk2.alloc ?_ _) | (with_reducible refine Blk4.drew ?_) | (with_reducible refine Blk4.drewN ?_) | (with_reducible refine Blk4.alloc ?_ _))); have xr : Blk4 wx (w4.heap.size) 0 2 0 1 := (by refine Blk4.keep ?_ hbx; repeat' (first | (with_reducible assumption) | ((with_reducible refine Blk2.new_at _ _ ?_); (simp; done)) | ((with_reducible refine Blk4.new_at _ _ ?_); (simp; done)) | (with_reducible refine Blk2.drew ?_) | (with_reducible refine Blk2.drewN ?_) | (with_reducible refine Blk2.alloc ?_ _) | (with_reducible refine Blk4.drew ?_) | (with_reducible refine Blk4.drewN ?_) | (with_reducible refine Blk4.alloc ?_ _))); have xn : Blk2 wx (w7.heap.size) 0 3 := (by refine Blk2.keep ?_ hbx; repeat' (first | (with_reducible assumption) | ((with_reducible refine Blk2.new_at _ _ ?_); (simp; done)) | ((with_reducible refine Blk4.new_at _ _ ?_); (simp; done)) | (with_reducible refine Blk2.drew ?_) | (with_reducible refine Blk2.drewN ?_) | (with_reducible refine Blk2.alloc ?_ _) | (with_reducible refine Blk4.drew ?_) | (with_reducible refine Blk4.drewN ?_) | (with_reducible refine Blk4.alloc ?_ _))); have xf0 := xf.c0; have xf1 := xf.c1; have xf2 := xf.c2; have xf3 := xf.c3; have xf9 := xf.lt; have xz0 := xz.c0; have xz1 := xz.c1; have xz2 := xz.c2; have xz3 := xz.c3; have xz9 := xz.lt; have xr0 := xr.c0; have xr1 := xr.c1; have xr2 := xr.c2; have xr3 := xr.c3; have xr9 := xr.lt; have xn0 := xn.c0; have xn1 := xn.c1; have xn9 := xn.lt; have xB : Below w.heap.size w wx := (by refine below_of ?_ hbx; go_grown); have xz := xB.size; clear hbx))
  go_wp2_with fail
  go_ret
  exact ⟨rfl, xB⟩
end Go.Proofs.YtnbchhjanlpdlaaDoor
