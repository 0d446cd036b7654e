/-
  WALKS: plimsolltop.TopBetween: it answers true.
-/
import Derived.Test.YtklmllkpedailaaDoorBetMath
namespace Go.Proofs.YtklmllkpedailaaDoor
open Go Go.RowKit

def RN (x k : Int) : U := rtN x.toNat k.toNat
def RD (x k : Int) : U := rtD x.toNat k.toNat
theorem hi_at {x : Int} (h0 : 0 ≤ x) (h1 : x ≤ 18446744073709551615) : (0 : Int) = hiZ (cutU x.toNat) := (hi_small (by omega)).symm
theorem lo_at {x : Int} (h0 : 0 ≤ x) (h1 : x ≤ 18446744073709551615) : x = loZ (cutU x.toNat) := by rw [lo_small (by omega)]; omega
theorem bt_rate {x k : Int} (h0 : 0 ≤ x) (h1 : x ≤ 8589934590) (k0 : 0 < k) (k1 : k ≤ 8589934590) (w : World) :
    Calls Tryd.prog 33 #[.agg #[.int .u64 0, .int .u64 x], .int .u64 k] w fun e w' =>
      e = .returned (.tuple #[.agg #[.int .u64 (hiZ (RN x k)), .int .u64 (loZ (RN x k)), .int .u64 (hiZ (RD x k)), .int .u64 (loZ (RD x k))], .int .i64 0]) ∧ Below w.heap.size w w' := by
  have hk : k = ((k.toNat : Nat) : Int) := by omega
  have e1 : (cutU x.toNat).n = x.toNat := cutU_n (by omega)
  have h := rate_at (a := cutU x.toNat) (hi_at h0 (by omega)) (lo_at h0 (by omega)) k.toNat (by omega) (by omega) (by rw [e1]; omega) w
  rw [← hk] at h
  exact h
theorem bt_rate0 {x : Int} (h0 : 0 ≤ x) (h1 : x ≤ 8589934590) (w : World) :
    Calls Tryd.prog 33 #[.agg #[.int .u64 0, .int .u64 x], .int .u64 0] w fun e w' =>
      e = .returned (.tuple #[.agg #[.int .u64 0, .int .u64 0, .int .u64 0, .int .u64 0], .int .i64 12]) ∧ Below w.heap.size w w' := by
  have h := rate_zero (cutU x.toNat) w
  rw [← hi_at h0 (by omega), ← lo_at h0 (by omega)] at h
  exact h
theorem bt_less {x k y l : Int} {b : Bool} (hx0 : 0 ≤ x) (hx : x ≤ 8589934590) (hk0 : 0 < k) (hk : k ≤ 8589934590) (hy0 : 0 ≤ y) (hy : y ≤ 8589934590) (hl0 : 0 < l) (hl : l ≤ 8589934590)
    (hb : decide (x.toNat * 1000 * l.toNat < y.toNat * 1000 * k.toNat) = b) (w : World) :
    Calls Tryd.prog 44 #[.agg #[.int .u64 (hiZ (RN x k)), .int .u64 (loZ (RN x k)), .int .u64 (hiZ (RD x k)), .int .u64 (loZ (RD x k))], .agg #[.int .u64 (hiZ (RN y l)), .int .u64 (loZ (RN y l)), .int .u64 (hiZ (RD y l)), .int .u64 (loZ (RD y l))]] w fun e w' =>
      e = .returned (.tuple #[.bool b, .int .i64 0]) ∧ Below w.heap.size w w' := by
  obtain ⟨h1, h2⟩ := rt_less (x := x.toNat) (k := k.toNat) (y := y.toNat) (l := l.toNat) (by omega) (by omega) (by omega) (by omega) (by omega) (by omega)
  refine (rless_any (RN x k) (RD x k) (RN y l) (RD y l) w).mono ?_
  rintro e w' ⟨rfl, hw⟩
  exact ⟨be_eq (h2.trans hb) h1, hw⟩
theorem bt_floor {x k : Int} (hx0 : 0 ≤ x) (hx : x ≤ 8589934590) (hk0 : 0 < k) (hk : k ≤ 8589934590) (w : World) :
    Calls Tryd.prog 35 #[.agg #[.int .u64 (hiZ (RN x k)), .int .u64 (loZ (RN x k)), .int .u64 (hiZ (RD x k)), .int .u64 (loZ (RD x k))]] w fun e w' =>
      e = .returned (.tuple #[.agg #[.int .u64 (hiZ (divW (RN x k) (RD x k))), .int .u64 (loZ (divW (RN x k) (RD x k)))], .int .i64 0]) ∧ Below w.heap.size w w' :=
  floor_any (RN x k) (RD x k) (rt_floor (x := x.toNat) (k := k.toNat) (by omega) (by omega) (by omega)).2 w
theorem bt_div {x k X : Int} (hX : X = 1000 * x) (hx0 : 0 ≤ x) (hx : x ≤ 8589934590) (hk0 : 0 < k) (hk : k ≤ 8589934590) (w : World) :
    Calls Tryd.prog 19 #[.agg #[.int .u64 0, .int .u64 X], .int .u64 k] w fun e w' =>
      ∃ R : Int, (0 ≤ R ∧ R < k) ∧ e = .returned (.tuple #[.agg #[.int .u64 (hiZ (divW (RN x k) (RD x k))), .int .u64 (loZ (divW (RN x k) (RD x k)))], .int .u64 R, .int .i64 0]) ∧ Below w.heap.size w w' := by
  have hk' : k = ((k.toNat : Nat) : Int) := by omega
  have h := wdiv_at (a := cutU X.toNat) (hi_at (by omega) (by omega)) (lo_at (by omega) (by omega)) k.toNat (by omega) (by omega) w
  rw [← hk'] at h
  have e1 : (cutU X.toNat).n = X.toNat := cutU_n (by omega)
  have e2 : divU (cutU X.toNat) k.toNat = divW (RN x k) (RD x k) := by
    refine U.ext ?_
    show (cutU X.toNat).n / k.toNat = (rtN x.toNat k.toNat).n / (rtD x.toNat k.toNat).n
    rw [(rt_floor (x := x.toNat) (k := k.toNat) (by omega) (by omega) (by omega)).1, e1, show X.toNat = x.toNat * 1000 by omega]
  rw [e2] at h
  refine h.mono ?_
  rintro e w' ⟨rfl, hw⟩
  refine ⟨_, ⟨?_, ?_⟩, rfl, hw⟩
  · unfold remZ; omega
  · unfold remZ
    have := Nat.mod_lt (cutU X.toNat).n (show k.toNat > 0 by omega)
    omega

set_option maxHeartbeats 8000000 in
set_option maxRecDepth 100000 in
theorem between_not (a b c d : Int) (ha0 : 0 ≤ a) (ha : a ≤ 4294967295) (hb0 : 0 < b) (hb : b ≤ 4294967295) (hc0 : 0 ≤ c) (hc : c ≤ 4294967295) (hd0 : 0 < d) (hd : d ≤ 4294967295) (w : World) (htab : tabs w)
    (hl : decide (c.toNat * 1000 * b.toNat < a.toNat * 1000 * d.toNat) = false) :
    Calls Tryd.prog 12 #[.int .u32 a, .int .u32 b, .int .u32 c, .int .u32 d] w fun e w' => e = .returned (.bool true) ∧ Below w.heap.size w w' := by
  have HT := Lib.hid htab
  have HL := Lib.hid hl
  obtain ⟨q1, q2⟩ := between (A := a.toNat * 1000) (B := b.toNat) (C := c.toNat * 1000) (D := d.toNat) (by have := of_decide_eq_false hl; omega)
  have u1 : (a + c).toNat * 1000 = a.toNat * 1000 + c.toNat * 1000 := by omega
  have u2 : (b + d).toNat = b.toNat + d.toNat := by omega
  have HLO := Lib.hid (show decide ((a + c).toNat * 1000 * b.toNat < a.toNat * 1000 * (b + d).toNat) = false by rw [u1, u2]; exact decide_eq_false (by exact q1))
  have HHI := Lib.hid (show decide (c.toNat * 1000 * (b + d).toNat < (a + c).toNat * 1000 * d.toNat) = false by rw [u1, u2]; exact decide_eq_false (by exact q2))
  have hbz : (b == 0) = false := by simp; omega
  have hdz : (d == 0) = false := by simp; omega
  clear htab hl q1 q2 u1 u2
  go_enter Tryd.func12, Tryd.ntmps12
  go_wp2_with fail
  refine (begins1_any _ HT.out).mono ?_
  rintro e w1 ⟨rfl, hb1⟩
  have B1 : Below w.heap.size w w1 := (by refine below_of ?_ hb1; go_grown)
  clear hb1
  have z1 := B1.size
  go_wp2_with (go_at_call 24; refine (of_any _ _).mono ?_; rintro e wo ⟨rfl, rfl⟩)
  refine (bt_rate (by omega) (by omega) (by omega) (by omega) _).mono ?_
  rintro e w2 ⟨rfl, hb2⟩
  have B2 : Below w.heap.size w w2 := (by refine below_of ?_ hb2; go_grown)
  clear hb2 B1 z1
  have z2 := B2.size
  have HZ := Lib.hid z2
  go_wp2_with (go_at_call 24; refine (of_any _ _).mono ?_; rintro e wo ⟨rfl, rfl⟩)
  refine (bt_rate (by omega) (by omega) (by omega) (by omega) _).mono ?_
  rintro e w3 ⟨rfl, hb3⟩
  have B3 : Below w.heap.size w w3 := (by refine below_of ?_ hb3; go_grown)
  have kf3 : Blk4 w3 (w2.heap.size) (hiZ (RN a b)) (loZ (RN a b)) (hiZ (RD a b)) (loZ (RD a b)) := (by refine Blk4.keep ?_ hb3; repeat' (first | (with_reducible assumption) | ((with_reducible refine Blk2.new_at _ _ ?_); (simp; done)) | ((with_reducible refine Blk4.new_at _ _ ?_); (simp; done)) | (with_reducible refine Blk2.drew ?_) | (with_reducible refine Blk2.drewN ?_) | (with_reducible refine Blk2.alloc ?_ _) | (with_reducible refine Blk4.drew ?_) | (with_reducible refine Blk4.drewN ?_) | (with_reducible refine Blk4.alloc ?_ _)))
  clear hb3 B2 z2
  have z3 := B3.size
  have cf3 := kf3.c0; have df3 := kf3.c1; have ef3 := kf3.c2; have hf3 := kf3.c3; have ff3 := kf3.f 0; have gf3 := kf3.f 1; have if3 := kf3.f 2; have jf3 := kf3.f 3; have lf3 := kf3.lt
  have HO := Lib.hid lf3
  go_wp2_with (go_at_call 24; refine (of_any _ _).mono ?_; rintro e wo ⟨rfl, rfl⟩)
  refine (bt_rate (by omega) (by omega) (by omega) (by omega) _).mono ?_
  rintro e w4 ⟨rfl, hb4⟩
  have B4 : Below w.heap.size w w4 := (by refine below_of ?_ hb4; go_grown)
  have kf4 : Blk4 w4 (w2.heap.size) (hiZ (RN a b)) (loZ (RN a b)) (hiZ (RD a b)) (loZ (RD a b)) := (by refine Blk4.keep ?_ hb4; repeat' (first | (with_reducible assumption) | ((with_reducible refine Blk2.new_at _ _ ?_); (simp; done)) | ((with_reducible refine Blk4.new_at _ _ ?_); (simp; done)) | (with_reducible refine Blk2.drew ?_) | (with_reducible refine Blk2.drewN ?_) | (with_reducible refine Blk2.alloc ?_ _) | (with_reducible refine Blk4.drew ?_) | (with_reducible refine Blk4.drewN ?_) | (with_reducible refine Blk4.alloc ?_ _)))
  have kg4 : Blk4 w4 (w3.heap.size) (hiZ (RN c d)) (loZ (RN c d)) (hiZ (RD c d)) (loZ (RD c d)) := (by refine Blk4.keep ?_ hb4; repeat' (first | (with_reducible assumption) | ((with_reducible refine Blk2.new_at _ _ ?_); (simp; done)) | ((with_reducible refine Blk4.new_at _ _ ?_); (simp; done)) | (with_reducible refine Blk2.drew ?_) | (with_reducible refine Blk2.drewN ?_) | (with_reducible refine Blk2.alloc ?_ _) | (with_reducible refine Blk4.drew ?_) | (with_reducible refine Blk4.drewN ?_) | (with_reducible refine Blk4.alloc ?_ _)))
  clear hb4 B3 z3 kf3 cf3 df3 ef3 hf3 ff3 gf3 if3 jf3 lf3
  have z4 := B4.size
  have cf4 := kf4.c0; have df4 := kf4.c1; have ef4 := kf4.c2; have hf4 := kf4.c3; have ff4 := kf4.f 0; have gf4 := kf4.f 1; have if4 := kf4.f 2; have jf4 := kf4.f 3; have lf4 := kf4.lt
  have cg4 := kg4.c0; have dg4 := kg4.c1; have eg4 := kg4.c2; have hg4 := kg4.c3; have fg4 := kg4.f 0; have gg4 := kg4.f 1; have ig4 := kg4.f 2; have jg4 := kg4.f 3; have lg4 := kg4.lt
  have o1 := HO.out; have o0 := HZ.out
  have o2 := lg4
  go_wp2_with fail
  refine (bt_less (x := c) (k := d) (y := a) (l := b) (by omega) (by omega) (by omega) (by omega) (by omega) (by omega) (by omega) (by omega)  HL.out _).mono ?_
  rintro e w5 ⟨rfl, hb5⟩
  have B5 : Below w.heap.size w w5 := (by refine below_of ?_ hb5; go_grown)
  have kf5 : Blk4 w5 (w2.heap.size) (hiZ (RN a b)) (loZ (RN a b)) (hiZ (RD a b)) (loZ (RD a b)) := (by refine Blk4.keep ?_ hb5; repeat' (first | (with_reducible assumption) | ((with_reducible refine Blk2.new_at _ _ ?_); (simp; done)) | ((with_reducible refine Blk4.new_at _ _ ?_); (simp; done)) | (with_reducible refine Blk2.drew ?_) | (with_reducible refine Blk2.drewN ?_) | (with_reducible refine Blk2.alloc ?_ _) | (with_reducible refine Blk4.drew ?_) | (with_reducible refine Blk4.drewN ?_) | (with_reducible refine Blk4.alloc ?_ _)))
  have kg5 : Blk4 w5 (w3.heap.size) (hiZ (RN c d)) (loZ (RN c d)) (hiZ (RD c d)) (loZ (RD c d)) := (by refine Blk4.keep ?_ hb5; repeat' (first | (with_reducible assumption) | ((with_reducible refine Blk2.new_at _ _ ?_); (simp; done)) | ((with_reducible refine Blk4.new_at _ _ ?_); (simp; done)) | (with_reducible refine Blk2.drew ?_) | (with_reducible refine Blk2.drewN ?_) | (with_reducible refine Blk2.alloc ?_ _) | (with_reducible refine Blk4.drew ?_) | (with_reducible refine Blk4.drewN ?_) | (with_reducible refine Blk4.alloc ?_ _)))
  have kh5 : Blk4 w5 (w4.heap.size) (hiZ (RN (a + c) (b + d))) (loZ (RN (a + c) (b + d))) (hiZ (RD (a + c) (b + d))) (loZ (RD (a + c) (b + d))) := (by refine Blk4.keep ?_ hb5; repeat' (first | (with_reducible assumption) | ((with_reducible refine Blk2.new_at _ _ ?_); (simp; done)) | ((with_reducible refine Blk4.new_at _ _ ?_); (simp; done)) | (with_reducible refine Blk2.drew ?_) | (with_reducible refine Blk2.drewN ?_) | (with_reducible refine Blk2.alloc ?_ _) | (with_reducible refine Blk4.drew ?_) | (with_reducible refine Blk4.drewN ?_) | (with_reducible refine Blk4.alloc ?_ _)))
  clear hb5 B4 z4 kf4 cf4 df4 ef4 hf4 ff4 gf4 if4 jf4 lf4 kg4 cg4 dg4 eg4 hg4 fg4 gg4 ig4 jg4 lg4
  have z5 := B5.size
  have cf5 := kf5.c0; have df5 := kf5.c1; have ef5 := kf5.c2; have hf5 := kf5.c3; have ff5 := kf5.f 0; have gf5 := kf5.f 1; have if5 := kf5.f 2; have jf5 := kf5.f 3; have lf5 := kf5.lt
  have cg5 := kg5.c0; have dg5 := kg5.c1; have eg5 := kg5.c2; have hg5 := kg5.c3; have fg5 := kg5.f 0; have gg5 := kg5.f 1; have ig5 := kg5.f 2; have jg5 := kg5.f 3; have lg5 := kg5.lt
  have ch5 := kh5.c0; have dh5 := kh5.c1; have eh5 := kh5.c2; have hh5 := kh5.c3; have fh5 := kh5.f 0; have gh5 := kh5.f 1; have ih5 := kh5.f 2; have jh5 := kh5.f 3; have lh5 := kh5.lt
  have o3 := lh5
  go_wp2_with fail
  refine (bt_less (x := a + c) (k := b + d) (y := a) (l := b) (by omega) (by omega) (by omega) (by omega) (by omega) (by omega) (by omega) (by omega)  HLO.out _).mono ?_
  rintro e w6 ⟨rfl, hb6⟩
  have B6 : Below w.heap.size w w6 := (by refine below_of ?_ hb6; go_grown)
  have kf6 : Blk4 w6 (w2.heap.size) (hiZ (RN a b)) (loZ (RN a b)) (hiZ (RD a b)) (loZ (RD a b)) := (by refine Blk4.keep ?_ hb6; repeat' (first | (with_reducible assumption) | ((with_reducible refine Blk2.new_at _ _ ?_); (simp; done)) | ((with_reducible refine Blk4.new_at _ _ ?_); (simp; done)) | (with_reducible refine Blk2.drew ?_) | (with_reducible refine Blk2.drewN ?_) | (with_reducible refine Blk2.alloc ?_ _) | (with_reducible refine Blk4.drew ?_) | (with_reducible refine Blk4.drewN ?_) | (with_reducible refine Blk4.alloc ?_ _)))
  have kg6 : Blk4 w6 (w3.heap.size) (hiZ (RN c d)) (loZ (RN c d)) (hiZ (RD c d)) (loZ (RD c d)) := (by refine Blk4.keep ?_ hb6; repeat' (first | (with_reducible assumption) | ((with_reducible refine Blk2.new_at _ _ ?_); (simp; done)) | ((with_reducible refine Blk4.new_at _ _ ?_); (simp; done)) | (with_reducible refine Blk2.drew ?_) | (with_reducible refine Blk2.drewN ?_) | (with_reducible refine Blk2.alloc ?_ _) | (with_reducible refine Blk4.drew ?_) | (with_reducible refine Blk4.drewN ?_) | (with_reducible refine Blk4.alloc ?_ _)))
  have kh6 : Blk4 w6 (w4.heap.size) (hiZ (RN (a + c) (b + d))) (loZ (RN (a + c) (b + d))) (hiZ (RD (a + c) (b + d))) (loZ (RD (a + c) (b + d))) := (by refine Blk4.keep ?_ hb6; repeat' (first | (with_reducible assumption) | ((with_reducible refine Blk2.new_at _ _ ?_); (simp; done)) | ((with_reducible refine Blk4.new_at _ _ ?_); (simp; done)) | (with_reducible refine Blk2.drew ?_) | (with_reducible refine Blk2.drewN ?_) | (with_reducible refine Blk2.alloc ?_ _) | (with_reducible refine Blk4.drew ?_) | (with_reducible refine Blk4.drewN ?_) | (with_reducible refine Blk4.alloc ?_ _)))
  clear hb6 B5 z5 kf5 cf5 df5 ef5 hf5 ff5 gf5 if5 jf5 lf5 kg5 cg5 dg5 eg5 hg5 fg5 gg5 ig5 jg5 lg5 kh5 ch5 dh5 eh5 hh5 fh5 gh5 ih5 jh5 lh5
  have z6 := B6.size
  have cf6 := kf6.c0; have df6 := kf6.c1; have ef6 := kf6.c2; have hf6 := kf6.c3; have ff6 := kf6.f 0; have gf6 := kf6.f 1; have if6 := kf6.f 2; have jf6 := kf6.f 3; have lf6 := kf6.lt
  have cg6 := kg6.c0; have dg6 := kg6.c1; have eg6 := kg6.c2; have hg6 := kg6.c3; have fg6 := kg6.f 0; have gg6 := kg6.f 1; have ig6 := kg6.f 2; have jg6 := kg6.f 3; have lg6 := kg6.lt
  have ch6 := kh6.c0; have dh6 := kh6.c1; have eh6 := kh6.c2; have hh6 := kh6.c3; have fh6 := kh6.f 0; have gh6 := kh6.f 1; have ih6 := kh6.f 2; have jh6 := kh6.f 3; have lh6 := kh6.lt
  go_wp2_with fail
  refine (bt_less (x := c) (k := d) (y := a + c) (l := b + d) (by omega) (by omega) (by omega) (by omega) (by omega) (by omega) (by omega) (by omega)  HHI.out _).mono ?_
  rintro e w7 ⟨rfl, hb7⟩
  have B7 : Below w.heap.size w w7 := (by refine below_of ?_ hb7; go_grown)
  have kf7 : Blk4 w7 (w2.heap.size) (hiZ (RN a b)) (loZ (RN a b)) (hiZ (RD a b)) (loZ (RD a b)) := (by refine Blk4.keep ?_ hb7; repeat' (first | (with_reducible assumption) | ((with_reducible refine Blk2.new_at _ _ ?_); (simp; done)) | ((with_reducible refine Blk4.new_at _ _ ?_); (simp; done)) | (with_reducible refine Blk2.drew ?_) | (with_reducible refine Blk2.drewN ?_) | (with_reducible refine Blk2.alloc ?_ _) | (with_reducible refine Blk4.drew ?_) | (with_reducible refine Blk4.drewN ?_) | (with_reducible refine Blk4.alloc ?_ _)))
  have kg7 : Blk4 w7 (w3.heap.size) (hiZ (RN c d)) (loZ (RN c d)) (hiZ (RD c d)) (loZ (RD c d)) := (by refine Blk4.keep ?_ hb7; repeat' (first | (with_reducible assumption) | ((with_reducible refine Blk2.new_at _ _ ?_); (simp; done)) | ((with_reducible refine Blk4.new_at _ _ ?_); (simp; done)) | (with_reducible refine Blk2.drew ?_) | (with_reducible refine Blk2.drewN ?_) | (with_reducible refine Blk2.alloc ?_ _) | (with_reducible refine Blk4.drew ?_) | (with_reducible refine Blk4.drewN ?_) | (with_reducible refine Blk4.alloc ?_ _)))
  have kh7 : Blk4 w7 (w4.heap.size) (hiZ (RN (a + c) (b + d))) (loZ (RN (a + c) (b + d))) (hiZ (RD (a + c) (b + d))) (loZ (RD (a + c) (b + d))) := (by refine Blk4.keep ?_ hb7; repeat' (first | (with_reducible assumption) | ((with_reducible refine Blk2.new_at _ _ ?_); (simp; done)) | ((with_reducible refine Blk4.new_at _ _ ?_); (simp; done)) | (with_reducible refine Blk2.drew ?_) | (with_reducible refine Blk2.drewN ?_) | (with_reducible refine Blk2.alloc ?_ _) | (with_reducible refine Blk4.drew ?_) | (with_reducible refine Blk4.drewN ?_) | (with_reducible refine Blk4.alloc ?_ _)))
  clear hb7 B6 z6 kf6 cf6 df6 ef6 hf6 ff6 gf6 if6 jf6 lf6 kg6 cg6 dg6 eg6 hg6 fg6 gg6 ig6 jg6 lg6 kh6 ch6 dh6 eh6 hh6 fh6 gh6 ih6 jh6 lh6
  have z7 := B7.size
  have cf7 := kf7.c0; have df7 := kf7.c1; have ef7 := kf7.c2; have hf7 := kf7.c3; have ff7 := kf7.f 0; have gf7 := kf7.f 1; have if7 := kf7.f 2; have jf7 := kf7.f 3; have lf7 := kf7.lt
  have cg7 := kg7.c0; have dg7 := kg7.c1; have eg7 := kg7.c2; have hg7 := kg7.c3; have fg7 := kg7.f 0; have gg7 := kg7.f 1; have ig7 := kg7.f 2; have jg7 := kg7.f 3; have lg7 := kg7.lt
  have ch7 := kh7.c0; have dh7 := kh7.c1; have eh7 := kh7.c2; have hh7 := kh7.c3; have fh7 := kh7.f 0; have gh7 := kh7.f 1; have ih7 := kh7.f 2; have jh7 := kh7.f 3; have lh7 := kh7.lt
  go_wp2_with fail
  refine (bt_floor (x := a + c) (k := b + d) (by omega) (by omega) (by omega) (by omega) _).mono ?_
  rintro e w8 ⟨rfl, hb8⟩
  have B8 : Below w.heap.size w w8 := (by refine below_of ?_ hb8; go_grown)
  have kf8 : Blk4 w8 (w2.heap.size) (hiZ (RN a b)) (loZ (RN a b)) (hiZ (RD a b)) (loZ (RD a b)) := (by refine Blk4.keep ?_ hb8; repeat' (first | (with_reducible assumption) | ((with_reducible refine Blk2.new_at _ _ ?_); (simp; done)) | ((with_reducible refine Blk4.new_at _ _ ?_); (simp; done)) | (with_reducible refine Blk2.drew ?_) | (with_reducible refine Blk2.drewN ?_) | (with_reducible refine Blk2.alloc ?_ _) | (with_reducible refine Blk4.drew ?_) | (with_reducible refine Blk4.drewN ?_) | (with_reducible refine Blk4.alloc ?_ _)))
  have kg8 : Blk4 w8 (w3.heap.size) (hiZ (RN c d)) (loZ (RN c d)) (hiZ (RD c d)) (loZ (RD c d)) := (by refine Blk4.keep ?_ hb8; repeat' (first | (with_reducible assumption) | ((with_reducible refine Blk2.new_at _ _ ?_); (simp; done)) | ((with_reducible refine Blk4.new_at _ _ ?_); (simp; done)) | (with_reducible refine Blk2.drew ?_) | (with_reducible refine Blk2.drewN ?_) | (with_reducible refine Blk2.alloc ?_ _) | (with_reducible refine Blk4.drew ?_) | (with_reducible refine Blk4.drewN ?_) | (with_reducible refine Blk4.alloc ?_ _)))
  have kh8 : Blk4 w8 (w4.heap.size) (hiZ (RN (a + c) (b + d))) (loZ (RN (a + c) (b + d))) (hiZ (RD (a + c) (b + d))) (loZ (RD (a + c) (b + d))) := (by refine Blk4.keep ?_ hb8; repeat' (first | (with_reducible assumption) | ((with_reducible refine Blk2.new_at _ _ ?_); (simp; done)) | ((with_reducible refine Blk4.new_at _ _ ?_); (simp; done)) | (with_reducible refine Blk2.drew ?_) | (with_reducible refine Blk2.drewN ?_) | (with_reducible refine Blk2.alloc ?_ _) | (with_reducible refine Blk4.drew ?_) | (with_reducible refine Blk4.drewN ?_) | (with_reducible refine Blk4.alloc ?_ _)))
  clear hb8 B7 z7 kf7 cf7 df7 ef7 hf7 ff7 gf7 if7 jf7 lf7 kg7 cg7 dg7 eg7 hg7 fg7 gg7 ig7 jg7 lg7 kh7 ch7 dh7 eh7 hh7 fh7 gh7 ih7 jh7 lh7
  have z8 := B8.size
  have cf8 := kf8.c0; have df8 := kf8.c1; have ef8 := kf8.c2; have hf8 := kf8.c3; have ff8 := kf8.f 0; have gf8 := kf8.f 1; have if8 := kf8.f 2; have jf8 := kf8.f 3; have lf8 := kf8.lt
  have cg8 := kg8.c0; have dg8 := kg8.c1; have eg8 := kg8.c2; have hg8 := kg8.c3; have fg8 := kg8.f 0; have gg8 := kg8.f 1; have ig8 := kg8.f 2; have jg8 := kg8.f 3; have lg8 := kg8.lt
  have ch8 := kh8.c0; have dh8 := kh8.c1; have eh8 := kh8.c2; have hh8 := kh8.c3; have fh8 := kh8.f 0; have gh8 := kh8.f 1; have ih8 := kh8.f 2; have jh8 := kh8.f 3; have lh8 := kh8.lt
  go_wp2_with (go_at_call 24; refine (of_any _ _).mono ?_; rintro e wo ⟨rfl, rfl⟩)
  refine (bt_div (x := a + c) (k := b + d) rfl (by omega) (by omega) (by omega) (by omega) _).mono ?_
  rintro e w9 ⟨R, ⟨R0, R1⟩, rfl, hb9⟩
  have B9 : Below w.heap.size w w9 := (by refine below_of ?_ hb9; go_grown)
  have kn9 : Blk2 w9 (w8.heap.size) (hiZ (divW (RN (a + c) (b + d)) (RD (a + c) (b + d)))) (loZ (divW (RN (a + c) (b + d)) (RD (a + c) (b + d)))) := (by refine Blk2.keep ?_ hb9; repeat' (first | (with_reducible assumption) | ((with_reducible refine Blk2.new_at _ _ ?_); (simp; done)) | ((with_reducible refine Blk4.new_at _ _ ?_); (simp; done)) | (with_reducible refine Blk2.drew ?_) | (with_reducible refine Blk2.drewN ?_) | (with_reducible refine Blk2.alloc ?_ _) | (with_reducible refine Blk4.drew ?_) | (with_reducible refine Blk4.drewN ?_) | (with_reducible refine Blk4.alloc ?_ _)))
  clear hb9 B8 z8 kf8 cf8 df8 ef8 hf8 ff8 gf8 if8 jf8 lf8 kg8 cg8 dg8 eg8 hg8 fg8 gg8 ig8 jg8 lg8 kh8 ch8 dh8 eh8 hh8 fh8 gh8 ih8 jh8 lh8
  have z9 := B9.size
  have cn9 := kn9.c0; have dn9 := kn9.c1; have fn9 := kn9.f0; have gn9 := kn9.f1; have ln9 := kn9.lt
  have hR : decide (R < b + d) = true := by simpa using R1
  go_wp2_with fail
  go_ret
  exact ⟨rfl, by go_grown⟩
set_option maxHeartbeats 8000000 in
set_option maxRecDepth 100000 in
theorem between_less (a b c d : Int) (ha0 : 0 ≤ a) (ha : a ≤ 4294967295) (hb0 : 0 < b) (hb : b ≤ 4294967295) (hc0 : 0 ≤ c) (hc : c ≤ 4294967295) (hd0 : 0 < d) (hd : d ≤ 4294967295) (w : World) (htab : tabs w)
    (hl : decide (c.toNat * 1000 * b.toNat < a.toNat * 1000 * d.toNat) = true) :
    Calls Tryd.prog 12 #[.int .u32 a, .int .u32 b, .int .u32 c, .int .u32 d] w fun e w' => e = .returned (.bool true) ∧ Below w.heap.size w w' := by
  have HT := Lib.hid htab
  have HL := Lib.hid hl
  obtain ⟨q1, q2⟩ := between (A := c.toNat * 1000) (B := d.toNat) (C := a.toNat * 1000) (D := b.toNat) (by have := of_decide_eq_true hl; omega)
  have u1 : (a + c).toNat * 1000 = a.toNat * 1000 + c.toNat * 1000 := by omega
  have u2 : (b + d).toNat = b.toNat + d.toNat := by omega
  have HLO := Lib.hid (show decide ((a + c).toNat * 1000 * d.toNat < c.toNat * 1000 * (b + d).toNat) = false by rw [u1, u2]; exact decide_eq_false (by rw [Nat.add_comm (a.toNat * 1000), Nat.add_comm b.toNat]; exact q1))
  have HHI := Lib.hid (show decide (a.toNat * 1000 * (b + d).toNat < (a + c).toNat * 1000 * b.toNat) = false by rw [u1, u2]; exact decide_eq_false (by rw [Nat.add_comm (a.toNat * 1000), Nat.add_comm b.toNat]; exact q2))
  have hbz : (b == 0) = false := by simp; omega
  have hdz : (d == 0) = false := by simp; omega
  clear htab hl q1 q2 u1 u2
  go_enter Tryd.func12, Tryd.ntmps12
  go_wp2_with fail
  refine (begins1_any _ HT.out).mono ?_
  rintro e w1 ⟨rfl, hb1⟩
  have B1 : Below w.heap.size w w1 := (by refine below_of ?_ hb1; go_grown)
  clear hb1
  have z1 := B1.size
  go_wp2_with (go_at_call 24; refine (of_any _ _).mono ?_; rintro e wo ⟨rfl, rfl⟩)
  refine (bt_rate (by omega) (by omega) (by omega) (by omega) _).mono ?_
  rintro e w2 ⟨rfl, hb2⟩
  have B2 : Below w.heap.size w w2 := (by refine below_of ?_ hb2; go_grown)
  clear hb2 B1 z1
  have z2 := B2.size
  have HZ := Lib.hid z2
  go_wp2_with (go_at_call 24; refine (of_any _ _).mono ?_; rintro e wo ⟨rfl, rfl⟩)
  refine (bt_rate (by omega) (by omega) (by omega) (by omega) _).mono ?_
  rintro e w3 ⟨rfl, hb3⟩
  have B3 : Below w.heap.size w w3 := (by refine below_of ?_ hb3; go_grown)
  have kf3 : Blk4 w3 (w2.heap.size) (hiZ (RN a b)) (loZ (RN a b)) (hiZ (RD a b)) (loZ (RD a b)) := (by refine Blk4.keep ?_ hb3; repeat' (first | (with_reducible assumption) | ((with_reducible refine Blk2.new_at _ _ ?_); (simp; done)) | ((with_reducible refine Blk4.new_at _ _ ?_); (simp; done)) | (with_reducible refine Blk2.drew ?_) | (with_reducible refine Blk2.drewN ?_) | (with_reducible refine Blk2.alloc ?_ _) | (with_reducible refine Blk4.drew ?_) | (with_reducible refine Blk4.drewN ?_) | (with_reducible refine Blk4.alloc ?_ _)))
  clear hb3 B2 z2
  have z3 := B3.size
  have cf3 := kf3.c0; have df3 := kf3.c1; have ef3 := kf3.c2; have hf3 := kf3.c3; have ff3 := kf3.f 0; have gf3 := kf3.f 1; have if3 := kf3.f 2; have jf3 := kf3.f 3; have lf3 := kf3.lt
  have HO := Lib.hid lf3
  go_wp2_with (go_at_call 24; refine (of_any _ _).mono ?_; rintro e wo ⟨rfl, rfl⟩)
  refine (bt_rate (by omega) (by omega) (by omega) (by omega) _).mono ?_
  rintro e w4 ⟨rfl, hb4⟩
  have B4 : Below w.heap.size w w4 := (by refine below_of ?_ hb4; go_grown)
  have kf4 : Blk4 w4 (w2.heap.size) (hiZ (RN a b)) (loZ (RN a b)) (hiZ (RD a b)) (loZ (RD a b)) := (by refine Blk4.keep ?_ hb4; repeat' (first | (with_reducible assumption) | ((with_reducible refine Blk2.new_at _ _ ?_); (simp; done)) | ((with_reducible refine Blk4.new_at _ _ ?_); (simp; done)) | (with_reducible refine Blk2.drew ?_) | (with_reducible refine Blk2.drewN ?_) | (with_reducible refine Blk2.alloc ?_ _) | (with_reducible refine Blk4.drew ?_) | (with_reducible refine Blk4.drewN ?_) | (with_reducible refine Blk4.alloc ?_ _)))
  have kg4 : Blk4 w4 (w3.heap.size) (hiZ (RN c d)) (loZ (RN c d)) (hiZ (RD c d)) (loZ (RD c d)) := (by refine Blk4.keep ?_ hb4; repeat' (first | (with_reducible assumption) | ((with_reducible refine Blk2.new_at _ _ ?_); (simp; done)) | ((with_reducible refine Blk4.new_at _ _ ?_); (simp; done)) | (with_reducible refine Blk2.drew ?_) | (with_reducible refine Blk2.drewN ?_) | (with_reducible refine Blk2.alloc ?_ _) | (with_reducible refine Blk4.drew ?_) | (with_reducible refine Blk4.drewN ?_) | (with_reducible refine Blk4.alloc ?_ _)))
  clear hb4 B3 z3 kf3 cf3 df3 ef3 hf3 ff3 gf3 if3 jf3 lf3
  have z4 := B4.size
  have cf4 := kf4.c0; have df4 := kf4.c1; have ef4 := kf4.c2; have hf4 := kf4.c3; have ff4 := kf4.f 0; have gf4 := kf4.f 1; have if4 := kf4.f 2; have jf4 := kf4.f 3; have lf4 := kf4.lt
  have cg4 := kg4.c0; have dg4 := kg4.c1; have eg4 := kg4.c2; have hg4 := kg4.c3; have fg4 := kg4.f 0; have gg4 := kg4.f 1; have ig4 := kg4.f 2; have jg4 := kg4.f 3; have lg4 := kg4.lt
  have o1 := HO.out; have o0 := HZ.out
  have o2 := lg4
  go_wp2_with fail
  refine (bt_less (x := c) (k := d) (y := a) (l := b) (by omega) (by omega) (by omega) (by omega) (by omega) (by omega) (by omega) (by omega)  HL.out _).mono ?_
  rintro e w5 ⟨rfl, hb5⟩
  have B5 : Below w.heap.size w w5 := (by refine below_of ?_ hb5; go_grown)
  have kf5 : Blk4 w5 (w2.heap.size) (hiZ (RN a b)) (loZ (RN a b)) (hiZ (RD a b)) (loZ (RD a b)) := (by refine Blk4.keep ?_ hb5; repeat' (first | (with_reducible assumption) | ((with_reducible refine Blk2.new_at _ _ ?_); (simp; done)) | ((with_reducible refine Blk4.new_at _ _ ?_); (simp; done)) | (with_reducible refine Blk2.drew ?_) | (with_reducible refine Blk2.drewN ?_) | (with_reducible refine Blk2.alloc ?_ _) | (with_reducible refine Blk4.drew ?_) | (with_reducible refine Blk4.drewN ?_) | (with_reducible refine Blk4.alloc ?_ _)))
  have kg5 : Blk4 w5 (w3.heap.size) (hiZ (RN c d)) (loZ (RN c d)) (hiZ (RD c d)) (loZ (RD c d)) := (by refine Blk4.keep ?_ hb5; repeat' (first | (with_reducible assumption) | ((with_reducible refine Blk2.new_at _ _ ?_); (simp; done)) | ((with_reducible refine Blk4.new_at _ _ ?_); (simp; done)) | (with_reducible refine Blk2.drew ?_) | (with_reducible refine Blk2.drewN ?_) | (with_reducible refine Blk2.alloc ?_ _) | (with_reducible refine Blk4.drew ?_) | (with_reducible refine Blk4.drewN ?_) | (with_reducible refine Blk4.alloc ?_ _)))
  have kh5 : Blk4 w5 (w4.heap.size) (hiZ (RN (a + c) (b + d))) (loZ (RN (a + c) (b + d))) (hiZ (RD (a + c) (b + d))) (loZ (RD (a + c) (b + d))) := (by refine Blk4.keep ?_ hb5; repeat' (first | (with_reducible assumption) | ((with_reducible refine Blk2.new_at _ _ ?_); (simp; done)) | ((with_reducible refine Blk4.new_at _ _ ?_); (simp; done)) | (with_reducible refine Blk2.drew ?_) | (with_reducible refine Blk2.drewN ?_) | (with_reducible refine Blk2.alloc ?_ _) | (with_reducible refine Blk4.drew ?_) | (with_reducible refine Blk4.drewN ?_) | (with_reducible refine Blk4.alloc ?_ _)))
  clear hb5 B4 z4 kf4 cf4 df4 ef4 hf4 ff4 gf4 if4 jf4 lf4 kg4 cg4 dg4 eg4 hg4 fg4 gg4 ig4 jg4 lg4
  have z5 := B5.size
  have cf5 := kf5.c0; have df5 := kf5.c1; have ef5 := kf5.c2; have hf5 := kf5.c3; have ff5 := kf5.f 0; have gf5 := kf5.f 1; have if5 := kf5.f 2; have jf5 := kf5.f 3; have lf5 := kf5.lt
  have cg5 := kg5.c0; have dg5 := kg5.c1; have eg5 := kg5.c2; have hg5 := kg5.c3; have fg5 := kg5.f 0; have gg5 := kg5.f 1; have ig5 := kg5.f 2; have jg5 := kg5.f 3; have lg5 := kg5.lt
  have ch5 := kh5.c0; have dh5 := kh5.c1; have eh5 := kh5.c2; have hh5 := kh5.c3; have fh5 := kh5.f 0; have gh5 := kh5.f 1; have ih5 := kh5.f 2; have jh5 := kh5.f 3; have lh5 := kh5.lt
  have o3 := lh5
  go_wp2_with fail
  refine (bt_less (x := a + c) (k := b + d) (y := c) (l := d) (by omega) (by omega) (by omega) (by omega) (by omega) (by omega) (by omega) (by omega)  HLO.out _).mono ?_
  rintro e w6 ⟨rfl, hb6⟩
  have sf := ((((kf5.set (hiZ (RN c d)) (loZ (RN c d)) (hiZ (RD c d)) (loZ (RD c d))).other ⟨w3.heap.size, 0, none⟩ (.int .u64 (hiZ (RN a b))) (by simp <;> omega)).other ⟨w3.heap.size, 1, none⟩ (.int .u64 (loZ (RN a b))) (by simp <;> omega)).other ⟨w3.heap.size, 2, none⟩ (.int .u64 (hiZ (RD a b))) (by simp <;> omega)).other ⟨w3.heap.size, 3, none⟩ (.int .u64 (loZ (RD a b))) (by simp <;> omega)
  have sg := (((((kg5).other ⟨w2.heap.size, 0, none⟩ (.int .u64 (hiZ (RN c d))) (by simp <;> omega)).other ⟨w2.heap.size, 1, none⟩ (.int .u64 (loZ (RN c d))) (by simp <;> omega)).other ⟨w2.heap.size, 2, none⟩ (.int .u64 (hiZ (RD c d))) (by simp <;> omega)).other ⟨w2.heap.size, 3, none⟩ (.int .u64 (loZ (RD c d))) (by simp <;> omega)).set (hiZ (RN a b)) (loZ (RN a b)) (hiZ (RD a b)) (loZ (RD a b))
  have sh := ((((((((kh5).other ⟨w2.heap.size, 0, none⟩ (.int .u64 (hiZ (RN c d))) (by simp <;> omega)).other ⟨w2.heap.size, 1, none⟩ (.int .u64 (loZ (RN c d))) (by simp <;> omega)).other ⟨w2.heap.size, 2, none⟩ (.int .u64 (hiZ (RD c d))) (by simp <;> omega)).other ⟨w2.heap.size, 3, none⟩ (.int .u64 (loZ (RD c d))) (by simp <;> omega)).other ⟨w3.heap.size, 0, none⟩ (.int .u64 (hiZ (RN a b))) (by simp <;> omega)).other ⟨w3.heap.size, 1, none⟩ (.int .u64 (loZ (RN a b))) (by simp <;> omega)).other ⟨w3.heap.size, 2, none⟩ (.int .u64 (hiZ (RD a b))) (by simp <;> omega)).other ⟨w3.heap.size, 3, none⟩ (.int .u64 (loZ (RD a b))) (by simp <;> omega)
  have B6 : Below w.heap.size w w6 := (by refine below_of ?_ hb6; go_grown)
  have kf6 := sf.keep hb6; have kg6 := sg.keep hb6; have kh6 := sh.keep hb6
  clear sf sg sh hb6 B5 z5 kf5 cf5 df5 ef5 hf5 ff5 gf5 if5 jf5 lf5 kg5 cg5 dg5 eg5 hg5 fg5 gg5 ig5 jg5 lg5 kh5 ch5 dh5 eh5 hh5 fh5 gh5 ih5 jh5 lh5
  have z6 := B6.size
  have cf6 := kf6.c0; have df6 := kf6.c1; have ef6 := kf6.c2; have hf6 := kf6.c3; have ff6 := kf6.f 0; have gf6 := kf6.f 1; have if6 := kf6.f 2; have jf6 := kf6.f 3; have lf6 := kf6.lt
  have cg6 := kg6.c0; have dg6 := kg6.c1; have eg6 := kg6.c2; have hg6 := kg6.c3; have fg6 := kg6.f 0; have gg6 := kg6.f 1; have ig6 := kg6.f 2; have jg6 := kg6.f 3; have lg6 := kg6.lt
  have ch6 := kh6.c0; have dh6 := kh6.c1; have eh6 := kh6.c2; have hh6 := kh6.c3; have fh6 := kh6.f 0; have gh6 := kh6.f 1; have ih6 := kh6.f 2; have jh6 := kh6.f 3; have lh6 := kh6.lt
  go_wp2_with fail
  refine (bt_less (x := a) (k := b) (y := a + c) (l := b + d) (by omega) (by omega) (by omega) (by omega) (by omega) (by omega) (by omega) (by omega)  HHI.out _).mono ?_
  rintro e w7 ⟨rfl, hb7⟩
  have B7 : Below w.heap.size w w7 := (by refine below_of ?_ hb7; go_grown)
  have kf7 : Blk4 w7 (w2.heap.size) (hiZ (RN c d)) (loZ (RN c d)) (hiZ (RD c d)) (loZ (RD c d)) := (by refine Blk4.keep ?_ hb7; repeat' (first | (with_reducible assumption) | ((with_reducible refine Blk2.new_at _ _ ?_); (simp; done)) | ((with_reducible refine Blk4.new_at _ _ ?_); (simp; done)) | (with_reducible refine Blk2.drew ?_) | (with_reducible refine Blk2.drewN ?_) | (with_reducible refine Blk2.alloc ?_ _) | (with_reducible refine Blk4.drew ?_) | (with_reducible refine Blk4.drewN ?_) | (with_reducible refine Blk4.alloc ?_ _)))
  have kg7 : Blk4 w7 (w3.heap.size) (hiZ (RN a b)) (loZ (RN a b)) (hiZ (RD a b)) (loZ (RD a b)) := (by refine Blk4.keep ?_ hb7; repeat' (first | (with_reducible assumption) | ((with_reducible refine Blk2.new_at _ _ ?_); (simp; done)) | ((with_reducible refine Blk4.new_at _ _ ?_); (simp; done)) | (with_reducible refine Blk2.drew ?_) | (with_reducible refine Blk2.drewN ?_) | (with_reducible refine Blk2.alloc ?_ _) | (with_reducible refine Blk4.drew ?_) | (with_reducible refine Blk4.drewN ?_) | (with_reducible refine Blk4.alloc ?_ _)))
  have kh7 : Blk4 w7 (w4.heap.size) (hiZ (RN (a + c) (b + d))) (loZ (RN (a + c) (b + d))) (hiZ (RD (a + c) (b + d))) (loZ (RD (a + c) (b + d))) := (by refine Blk4.keep ?_ hb7; repeat' (first | (with_reducible assumption) | ((with_reducible refine Blk2.new_at _ _ ?_); (simp; done)) | ((with_reducible refine Blk4.new_at _ _ ?_); (simp; done)) | (with_reducible refine Blk2.drew ?_) | (with_reducible refine Blk2.drewN ?_) | (with_reducible refine Blk2.alloc ?_ _) | (with_reducible refine Blk4.drew ?_) | (with_reducible refine Blk4.drewN ?_) | (with_reducible refine Blk4.alloc ?_ _)))
  clear hb7 B6 z6 kf6 cf6 df6 ef6 hf6 ff6 gf6 if6 jf6 lf6 kg6 cg6 dg6 eg6 hg6 fg6 gg6 ig6 jg6 lg6 kh6 ch6 dh6 eh6 hh6 fh6 gh6 ih6 jh6 lh6
  have z7 := B7.size
  have cf7 := kf7.c0; have df7 := kf7.c1; have ef7 := kf7.c2; have hf7 := kf7.c3; have ff7 := kf7.f 0; have gf7 := kf7.f 1; have if7 := kf7.f 2; have jf7 := kf7.f 3; have lf7 := kf7.lt
  have cg7 := kg7.c0; have dg7 := kg7.c1; have eg7 := kg7.c2; have hg7 := kg7.c3; have fg7 := kg7.f 0; have gg7 := kg7.f 1; have ig7 := kg7.f 2; have jg7 := kg7.f 3; have lg7 := kg7.lt
  have ch7 := kh7.c0; have dh7 := kh7.c1; have eh7 := kh7.c2; have hh7 := kh7.c3; have fh7 := kh7.f 0; have gh7 := kh7.f 1; have ih7 := kh7.f 2; have jh7 := kh7.f 3; have lh7 := kh7.lt
  go_wp2_with fail
  refine (bt_floor (x := a + c) (k := b + d) (by omega) (by omega) (by omega) (by omega) _).mono ?_
  rintro e w8 ⟨rfl, hb8⟩
  have B8 : Below w.heap.size w w8 := (by refine below_of ?_ hb8; go_grown)
  have kf8 : Blk4 w8 (w2.heap.size) (hiZ (RN c d)) (loZ (RN c d)) (hiZ (RD c d)) (loZ (RD c d)) := (by refine Blk4.keep ?_ hb8; repeat' (first | (with_reducible assumption) | ((with_reducible refine Blk2.new_at _ _ ?_); (simp; done)) | ((with_reducible refine Blk4.new_at _ _ ?_); (simp; done)) | (with_reducible refine Blk2.drew ?_) | (with_reducible refine Blk2.drewN ?_) | (with_reducible refine Blk2.alloc ?_ _) | (with_reducible refine Blk4.drew ?_) | (with_reducible refine Blk4.drewN ?_) | (with_reducible refine Blk4.alloc ?_ _)))
  have kg8 : Blk4 w8 (w3.heap.size) (hiZ (RN a b)) (loZ (RN a b)) (hiZ (RD a b)) (loZ (RD a b)) := (by refine Blk4.keep ?_ hb8; repeat' (first | (with_reducible assumption) | ((with_reducible refine Blk2.new_at _ _ ?_); (simp; done)) | ((with_reducible refine Blk4.new_at _ _ ?_); (simp; done)) | (with_reducible refine Blk2.drew ?_) | (with_reducible refine Blk2.drewN ?_) | (with_reducible refine Blk2.alloc ?_ _) | (with_reducible refine Blk4.drew ?_) | (with_reducible refine Blk4.drewN ?_) | (with_reducible refine Blk4.alloc ?_ _)))
  have kh8 : Blk4 w8 (w4.heap.size) (hiZ (RN (a + c) (b + d))) (loZ (RN (a + c) (b + d))) (hiZ (RD (a + c) (b + d))) (loZ (RD (a + c) (b + d))) := (by refine Blk4.keep ?_ hb8; repeat' (first | (with_reducible assumption) | ((with_reducible refine Blk2.new_at _ _ ?_); (simp; done)) | ((with_reducible refine Blk4.new_at _ _ ?_); (simp; done)) | (with_reducible refine Blk2.drew ?_) | (with_reducible refine Blk2.drewN ?_) | (with_reducible refine Blk2.alloc ?_ _) | (with_reducible refine Blk4.drew ?_) | (with_reducible refine Blk4.drewN ?_) | (with_reducible refine Blk4.alloc ?_ _)))
  clear hb8 B7 z7 kf7 cf7 df7 ef7 hf7 ff7 gf7 if7 jf7 lf7 kg7 cg7 dg7 eg7 hg7 fg7 gg7 ig7 jg7 lg7 kh7 ch7 dh7 eh7 hh7 fh7 gh7 ih7 jh7 lh7
  have z8 := B8.size
  have cf8 := kf8.c0; have df8 := kf8.c1; have ef8 := kf8.c2; have hf8 := kf8.c3; have ff8 := kf8.f 0; have gf8 := kf8.f 1; have if8 := kf8.f 2; have jf8 := kf8.f 3; have lf8 := kf8.lt
  have cg8 := kg8.c0; have dg8 := kg8.c1; have eg8 := kg8.c2; have hg8 := kg8.c3; have fg8 := kg8.f 0; have gg8 := kg8.f 1; have ig8 := kg8.f 2; have jg8 := kg8.f 3; have lg8 := kg8.lt
  have ch8 := kh8.c0; have dh8 := kh8.c1; have eh8 := kh8.c2; have hh8 := kh8.c3; have fh8 := kh8.f 0; have gh8 := kh8.f 1; have ih8 := kh8.f 2; have jh8 := kh8.f 3; have lh8 := kh8.lt
  go_wp2_with (go_at_call 24; refine (of_any _ _).mono ?_; rintro e wo ⟨rfl, rfl⟩)
  refine (bt_div (x := a + c) (k := b + d) rfl (by omega) (by omega) (by omega) (by omega) _).mono ?_
  rintro e w9 ⟨R, ⟨R0, R1⟩, rfl, hb9⟩
  have B9 : Below w.heap.size w w9 := (by refine below_of ?_ hb9; go_grown)
  have kn9 : Blk2 w9 (w8.heap.size) (hiZ (divW (RN (a + c) (b + d)) (RD (a + c) (b + d)))) (loZ (divW (RN (a + c) (b + d)) (RD (a + c) (b + d)))) := (by refine Blk2.keep ?_ hb9; repeat' (first | (with_reducible assumption) | ((with_reducible refine Blk2.new_at _ _ ?_); (simp; done)) | ((with_reducible refine Blk4.new_at _ _ ?_); (simp; done)) | (with_reducible refine Blk2.drew ?_) | (with_reducible refine Blk2.drewN ?_) | (with_reducible refine Blk2.alloc ?_ _) | (with_reducible refine Blk4.drew ?_) | (with_reducible refine Blk4.drewN ?_) | (with_reducible refine Blk4.alloc ?_ _)))
  clear hb9 B8 z8 kf8 cf8 df8 ef8 hf8 ff8 gf8 if8 jf8 lf8 kg8 cg8 dg8 eg8 hg8 fg8 gg8 ig8 jg8 lg8 kh8 ch8 dh8 eh8 hh8 fh8 gh8 ih8 jh8 lh8
  have z9 := B9.size
  have cn9 := kn9.c0; have dn9 := kn9.c1; have fn9 := kn9.f0; have gn9 := kn9.f1; have ln9 := kn9.lt
  have hR : decide (R < b + d) = true := by simpa using R1
  go_wp2_with fail
  go_ret
  exact ⟨rfl, by go_grown⟩
set_option maxHeartbeats 8000000 in
set_option maxRecDepth 100000 in
theorem between_zb (a c d : Int) (ha0 : 0 ≤ a) (ha : a ≤ 4294967295) (hc0 : 0 ≤ c) (hc : c ≤ 4294967295) (hd0 : 0 < d) (hd : d ≤ 4294967295) (w : World) (htab : tabs w) :
    Calls Tryd.prog 12 #[.int .u32 a, .int .u32 0, .int .u32 c, .int .u32 d] w fun e w' => e = .returned (.bool true) ∧ Below w.heap.size w w' := by
  have HT := Lib.hid htab
  clear htab
  have hdz : (d == 0) = false := by simp; omega
  have hdn : (d != 0) = true := by simp; omega
  go_enter Tryd.func12, Tryd.ntmps12
  go_wp2_with fail
  refine (begins1_any _ HT.out).mono ?_
  rintro e w1 ⟨rfl, hb1⟩
  have B1 : Below w.heap.size w w1 := (by refine below_of ?_ hb1; go_grown)
  clear hb1
  have z1 := B1.size
  go_wp2_with (go_at_call 24; refine (of_any _ _).mono ?_; rintro e wo ⟨rfl, rfl⟩)
  refine (bt_rate0 (by omega) (by omega) _).mono ?_
  rintro e w2 ⟨rfl, hb2⟩
  have B2 : Below w.heap.size w w2 := (by refine below_of ?_ hb2; go_grown)
  clear hb2 B1 z1
  have z2 := B2.size
  go_wp2_with (go_at_call 24; refine (of_any _ _).mono ?_; rintro e wo ⟨rfl, rfl⟩)
  refine (bt_rate (by omega) (by omega) (by omega) (by omega) _).mono ?_
  rintro e w3 ⟨rfl, hb3⟩
  have B3 : Below w.heap.size w w3 := (by refine below_of ?_ hb3; go_grown)
  have kf3 : Blk4 w3 (w2.heap.size) (0) (0) (0) (0) := (by refine Blk4.keep ?_ hb3; repeat' (first | (with_reducible assumption) | ((with_reducible refine Blk2.new_at _ _ ?_); (simp; done)) | ((with_reducible refine Blk4.new_at _ _ ?_); (simp; done)) | (with_reducible refine Blk2.drew ?_) | (with_reducible refine Blk2.drewN ?_) | (with_reducible refine Blk2.alloc ?_ _) | (with_reducible refine Blk4.drew ?_) | (with_reducible refine Blk4.drewN ?_) | (with_reducible refine Blk4.alloc ?_ _)))
  clear hb3 B2 z2
  have z3 := B3.size
  have cf3 := kf3.c0; have df3 := kf3.c1; have ef3 := kf3.c2; have hf3 := kf3.c3; have ff3 := kf3.f 0; have gf3 := kf3.f 1; have if3 := kf3.f 2; have jf3 := kf3.f 3; have lf3 := kf3.lt
  go_wp2_with (go_at_call 24; refine (of_any _ _).mono ?_; rintro e wo ⟨rfl, rfl⟩)
  refine (bt_rate (by omega) (by omega) (by omega) (by omega) _).mono ?_
  rintro e w4 ⟨rfl, hb4⟩
  have B4 : Below w.heap.size w w4 := (by refine below_of ?_ hb4; go_grown)
  have kf4 : Blk4 w4 (w2.heap.size) (0) (0) (0) (0) := (by refine Blk4.keep ?_ hb4; repeat' (first | (with_reducible assumption) | ((with_reducible refine Blk2.new_at _ _ ?_); (simp; done)) | ((with_reducible refine Blk4.new_at _ _ ?_); (simp; done)) | (with_reducible refine Blk2.drew ?_) | (with_reducible refine Blk2.drewN ?_) | (with_reducible refine Blk2.alloc ?_ _) | (with_reducible refine Blk4.drew ?_) | (with_reducible refine Blk4.drewN ?_) | (with_reducible refine Blk4.alloc ?_ _)))
  have kg4 : Blk4 w4 (w3.heap.size) (hiZ (RN c d)) (loZ (RN c d)) (hiZ (RD c d)) (loZ (RD c d)) := (by refine Blk4.keep ?_ hb4; repeat' (first | (with_reducible assumption) | ((with_reducible refine Blk2.new_at _ _ ?_); (simp; done)) | ((with_reducible refine Blk4.new_at _ _ ?_); (simp; done)) | (with_reducible refine Blk2.drew ?_) | (with_reducible refine Blk2.drewN ?_) | (with_reducible refine Blk2.alloc ?_ _) | (with_reducible refine Blk4.drew ?_) | (with_reducible refine Blk4.drewN ?_) | (with_reducible refine Blk4.alloc ?_ _)))
  clear hb4 B3 z3 kf3 cf3 df3 ef3 hf3 ff3 gf3 if3 jf3 lf3
  have z4 := B4.size
  have cf4 := kf4.c0; have df4 := kf4.c1; have ef4 := kf4.c2; have hf4 := kf4.c3; have ff4 := kf4.f 0; have gf4 := kf4.f 1; have if4 := kf4.f 2; have jf4 := kf4.f 3; have lf4 := kf4.lt
  have cg4 := kg4.c0; have dg4 := kg4.c1; have eg4 := kg4.c2; have hg4 := kg4.c3; have fg4 := kg4.f 0; have gg4 := kg4.f 1; have ig4 := kg4.f 2; have jg4 := kg4.f 3; have lg4 := kg4.lt
  go_wp2_with fail
  go_ret
  exact ⟨rfl, by go_grown⟩
set_option maxHeartbeats 8000000 in
set_option maxRecDepth 100000 in
theorem between_zd (a b c : Int) (ha0 : 0 ≤ a) (ha : a ≤ 4294967295) (hc0 : 0 ≤ c) (hc : c ≤ 4294967295) (hb0 : 0 < b) (hb : b ≤ 4294967295) (w : World) (htab : tabs w) :
    Calls Tryd.prog 12 #[.int .u32 a, .int .u32 b, .int .u32 c, .int .u32 0] w fun e w' => e = .returned (.bool true) ∧ Below w.heap.size w w' := by
  have HT := Lib.hid htab
  clear htab
  have hbz : (b == 0) = false := by simp; omega
  have hbn : (b != 0) = true := by simp; omega
  go_enter Tryd.func12, Tryd.ntmps12
  go_wp2_with fail
  refine (begins1_any _ HT.out).mono ?_
  rintro e w1 ⟨rfl, hb1⟩
  have B1 : Below w.heap.size w w1 := (by refine below_of ?_ hb1; go_grown)
  clear hb1
  have z1 := B1.size
  go_wp2_with (go_at_call 24; refine (of_any _ _).mono ?_; rintro e wo ⟨rfl, rfl⟩)
  refine (bt_rate (by omega) (by omega) (by omega) (by omega) _).mono ?_
  rintro e w2 ⟨rfl, hb2⟩
  have B2 : Below w.heap.size w w2 := (by refine below_of ?_ hb2; go_grown)
  clear hb2 B1 z1
  have z2 := B2.size
  go_wp2_with (go_at_call 24; refine (of_any _ _).mono ?_; rintro e wo ⟨rfl, rfl⟩)
  refine (bt_rate0 (by omega) (by omega) _).mono ?_
  rintro e w3 ⟨rfl, hb3⟩
  have B3 : Below w.heap.size w w3 := (by refine below_of ?_ hb3; go_grown)
  have kf3 : Blk4 w3 (w2.heap.size) (hiZ (RN a b)) (loZ (RN a b)) (hiZ (RD a b)) (loZ (RD a b)) := (by refine Blk4.keep ?_ hb3; repeat' (first | (with_reducible assumption) | ((with_reducible refine Blk2.new_at _ _ ?_); (simp; done)) | ((with_reducible refine Blk4.new_at _ _ ?_); (simp; done)) | (with_reducible refine Blk2.drew ?_) | (with_reducible refine Blk2.drewN ?_) | (with_reducible refine Blk2.alloc ?_ _) | (with_reducible refine Blk4.drew ?_) | (with_reducible refine Blk4.drewN ?_) | (with_reducible refine Blk4.alloc ?_ _)))
  clear hb3 B2 z2
  have z3 := B3.size
  have cf3 := kf3.c0; have df3 := kf3.c1; have ef3 := kf3.c2; have hf3 := kf3.c3; have ff3 := kf3.f 0; have gf3 := kf3.f 1; have if3 := kf3.f 2; have jf3 := kf3.f 3; have lf3 := kf3.lt
  go_wp2_with (go_at_call 24; refine (of_any _ _).mono ?_; rintro e wo ⟨rfl, rfl⟩)
  refine (bt_rate (by omega) (by omega) (by omega) (by omega) _).mono ?_
  rintro e w4 ⟨rfl, hb4⟩
  have B4 : Below w.heap.size w w4 := (by refine below_of ?_ hb4; go_grown)
  have kf4 : Blk4 w4 (w2.heap.size) (hiZ (RN a b)) (loZ (RN a b)) (hiZ (RD a b)) (loZ (RD a b)) := (by refine Blk4.keep ?_ hb4; repeat' (first | (with_reducible assumption) | ((with_reducible refine Blk2.new_at _ _ ?_); (simp; done)) | ((with_reducible refine Blk4.new_at _ _ ?_); (simp; done)) | (with_reducible refine Blk2.drew ?_) | (with_reducible refine Blk2.drewN ?_) | (with_reducible refine Blk2.alloc ?_ _) | (with_reducible refine Blk4.drew ?_) | (with_reducible refine Blk4.drewN ?_) | (with_reducible refine Blk4.alloc ?_ _)))
  have kg4 : Blk4 w4 (w3.heap.size) (0) (0) (0) (0) := (by refine Blk4.keep ?_ hb4; repeat' (first | (with_reducible assumption) | ((with_reducible refine Blk2.new_at _ _ ?_); (simp; done)) | ((with_reducible refine Blk4.new_at _ _ ?_); (simp; done)) | (with_reducible refine Blk2.drew ?_) | (with_reducible refine Blk2.drewN ?_) | (with_reducible refine Blk2.alloc ?_ _) | (with_reducible refine Blk4.drew ?_) | (with_reducible refine Blk4.drewN ?_) | (with_reducible refine Blk4.alloc ?_ _)))
  clear hb4 B3 z3 kf3 cf3 df3 ef3 hf3 ff3 gf3 if3 jf3 lf3
  have z4 := B4.size
  have cf4 := kf4.c0; have df4 := kf4.c1; have ef4 := kf4.c2; have hf4 := kf4.c3; have ff4 := kf4.f 0; have gf4 := kf4.f 1; have if4 := kf4.f 2; have jf4 := kf4.f 3; have lf4 := kf4.lt
  have cg4 := kg4.c0; have dg4 := kg4.c1; have eg4 := kg4.c2; have hg4 := kg4.c3; have fg4 := kg4.f 0; have gg4 := kg4.f 1; have ig4 := kg4.f 2; have jg4 := kg4.f 3; have lg4 := kg4.lt
  go_wp2_with fail
  go_ret
  exact ⟨rfl, by go_grown⟩
set_option maxHeartbeats 8000000 in
set_option maxRecDepth 100000 in
theorem between_zboth (a c : Int) (ha0 : 0 ≤ a) (ha : a ≤ 4294967295) (hc0 : 0 ≤ c) (hc : c ≤ 4294967295) (w : World) (htab : tabs w) :
    Calls Tryd.prog 12 #[.int .u32 a, .int .u32 0, .int .u32 c, .int .u32 0] w fun e w' => e = .returned (.bool true) ∧ Below w.heap.size w w' := by
  have HT := Lib.hid htab
  clear htab
  go_enter Tryd.func12, Tryd.ntmps12
  go_wp2_with fail
  refine (begins1_any _ HT.out).mono ?_
  rintro e w1 ⟨rfl, hb1⟩
  have B1 : Below w.heap.size w w1 := (by refine below_of ?_ hb1; go_grown)
  clear hb1
  have z1 := B1.size
  go_wp2_with (go_at_call 24; refine (of_any _ _).mono ?_; rintro e wo ⟨rfl, rfl⟩)
  refine (bt_rate0 (by omega) (by omega) _).mono ?_
  rintro e w2 ⟨rfl, hb2⟩
  have B2 : Below w.heap.size w w2 := (by refine below_of ?_ hb2; go_grown)
  clear hb2 B1 z1
  have z2 := B2.size
  go_wp2_with (go_at_call 24; refine (of_any _ _).mono ?_; rintro e wo ⟨rfl, rfl⟩)
  refine (bt_rate0 (by omega) (by omega) _).mono ?_
  rintro e w3 ⟨rfl, hb3⟩
  have B3 : Below w.heap.size w w3 := (by refine below_of ?_ hb3; go_grown)
  have kf3 : Blk4 w3 (w2.heap.size) (0) (0) (0) (0) := (by refine Blk4.keep ?_ hb3; repeat' (first | (with_reducible assumption) | ((with_reducible refine Blk2.new_at _ _ ?_); (simp; done)) | ((with_reducible refine Blk4.new_at _ _ ?_); (simp; done)) | (with_reducible refine Blk2.drew ?_) | (with_reducible refine Blk2.drewN ?_) | (with_reducible refine Blk2.alloc ?_ _) | (with_reducible refine Blk4.drew ?_) | (with_reducible refine Blk4.drewN ?_) | (with_reducible refine Blk4.alloc ?_ _)))
  clear hb3 B2 z2
  have z3 := B3.size
  have cf3 := kf3.c0; have df3 := kf3.c1; have ef3 := kf3.c2; have hf3 := kf3.c3; have ff3 := kf3.f 0; have gf3 := kf3.f 1; have if3 := kf3.f 2; have jf3 := kf3.f 3; have lf3 := kf3.lt
  go_wp2_with (go_at_call 24; refine (of_any _ _).mono ?_; rintro e wo ⟨rfl, rfl⟩)
  refine (bt_rate0 (by omega) (by omega) _).mono ?_
  rintro e w4 ⟨rfl, hb4⟩
  have B4 : Below w.heap.size w w4 := (by refine below_of ?_ hb4; go_grown)
  have kf4 : Blk4 w4 (w2.heap.size) (0) (0) (0) (0) := (by refine Blk4.keep ?_ hb4; repeat' (first | (with_reducible assumption) | ((with_reducible refine Blk2.new_at _ _ ?_); (simp; done)) | ((with_reducible refine Blk4.new_at _ _ ?_); (simp; done)) | (with_reducible refine Blk2.drew ?_) | (with_reducible refine Blk2.drewN ?_) | (with_reducible refine Blk2.alloc ?_ _) | (with_reducible refine Blk4.drew ?_) | (with_reducible refine Blk4.drewN ?_) | (with_reducible refine Blk4.alloc ?_ _)))
  have kg4 : Blk4 w4 (w3.heap.size) (0) (0) (0) (0) := (by refine Blk4.keep ?_ hb4; repeat' (first | (with_reducible assumption) | ((with_reducible refine Blk2.new_at _ _ ?_); (simp; done)) | ((with_reducible refine Blk4.new_at _ _ ?_); (simp; done)) | (with_reducible refine Blk2.drew ?_) | (with_reducible refine Blk2.drewN ?_) | (with_reducible refine Blk2.alloc ?_ _) | (with_reducible refine Blk4.drew ?_) | (with_reducible refine Blk4.drewN ?_) | (with_reducible refine Blk4.alloc ?_ _)))
  clear hb4 B3 z3 kf3 cf3 df3 ef3 hf3 ff3 gf3 if3 jf3 lf3
  have z4 := B4.size
  have cf4 := kf4.c0; have df4 := kf4.c1; have ef4 := kf4.c2; have hf4 := kf4.c3; have ff4 := kf4.f 0; have gf4 := kf4.f 1; have if4 := kf4.f 2; have jf4 := kf4.f 3; have lf4 := kf4.lt
  have cg4 := kg4.c0; have dg4 := kg4.c1; have eg4 := kg4.c2; have hg4 := kg4.c3; have fg4 := kg4.f 0; have gg4 := kg4.f 1; have ig4 := kg4.f 2; have jg4 := kg4.f 3; have lg4 := kg4.lt
  go_wp2_with fail
  go_ret
  exact ⟨rfl, by go_grown⟩
theorem between_any (a b c d : Int) (ha0 : 0 ≤ a) (ha : a ≤ 4294967295) (hb0 : 0 ≤ b) (hb : b ≤ 4294967295) (hc0 : 0 ≤ c) (hc : c ≤ 4294967295) (hd0 : 0 ≤ d) (hd : d ≤ 4294967295) (w : World) (htab : tabs w) :
    Calls Tryd.prog 12 #[.int .u32 a, .int .u32 b, .int .u32 c, .int .u32 d] w fun e w' => e = .returned (.bool true) ∧ Below w.heap.size w w' := by
  by_cases h1 : b = 0
  · subst h1
    by_cases h2 : d = 0
    · subst h2
      exact between_zboth a c ha0 ha hc0 hc w htab
    · exact between_zb a c d ha0 ha hc0 hc (by omega) hd w htab
  · by_cases h2 : d = 0
    · subst h2
      exact between_zd a b c ha0 ha hc0 hc (by omega) hb w htab
    · cases hl : decide (c.toNat * 1000 * b.toNat < a.toNat * 1000 * d.toNat)
      · exact between_not a b c d ha0 ha (by omega) hb hc0 hc (by omega) hd w htab hl
      · exact between_less a b c d ha0 ha (by omega) hb hc0 hc (by omega) hd w htab hl
end Go.Proofs.YtklmllkpedailaaDoor
